"""Stores against plain reckoning: many mixed deeds, each followed by reads of all (points 36 to 43)."""

import random
import unittest

from tessera.disks import Disk
from tessera.kinds import KINDS, greatest, least
from tessera.opening import new_store, open_store

from tests.plain_store import PlainStore, indexes_of
from tests.tools import error_of, snapshot

NAMES = ["a", "b", "c1", "0"]
FILTERS = [(), ("delta", "runs"), ("planes", "delta", "zeros"), ("runs",) * 6, ("delta",) * 7, ("none",)]


class Deeds:
    """Random but repeatable deeds; some of them are refused."""

    def __init__(self, seed):
        self.choose = random.Random(seed)
        self.plain = PlainStore()

    def path(self, known=0.6):
        there = list(self.plain.things)
        if self.choose.random() < 0.03:
            return self.choose.choice(["", "A", "a//b", "/a", "a/", "x" * 13, "a/b/c/d/e/f/g"])
        if self.choose.random() < known:
            return self.choose.choice(there[1:] or there)
        groups = [path for path in there if self.plain.things[path]["sort"] == "group"]
        above = self.choose.choice(groups if self.choose.random() < 0.9 else there)
        return (above + "/" if above else "") + self.choose.choice(NAMES)

    def shape(self, dimensions):
        if self.choose.random() < 0.04:
            return (10 ** 9 + 1,) * dimensions
        return tuple([self.choose.randrange(5) for _ in range(dimensions)])

    def kind(self):
        return self.choose.choice(KINDS) if self.choose.random() < 0.97 else "i8"

    def value(self, kind):
        if kind not in KINDS or self.choose.random() < 0.02:
            return 10 ** 12
        return self.choose.choice([0, 1, least(kind), greatest(kind), self.choose.randint(least(kind), greatest(kind))])

    def selection(self, shape):
        indexes = indexes_of(shape)
        if self.choose.random() < 0.4 and indexes:
            return "points", tuple([self.choose.choice(indexes) for _ in range(self.choose.randrange(5))])
        ranges = []
        for size in shape:
            start, step = self.choose.randrange(size + 1), self.choose.randrange(1, 3)
            most = len(range(start, size, step))
            ranges.append((start, step, self.choose.randrange(most + 1) + (self.choose.random() < 0.02)))
        return "box", tuple(ranges)

    def piece(self, shape):
        target = tuple([self.choose.randrange(max(size, 1)) for size in shape])
        counts = tuple([self.choose.randrange(1, max(size - start, 0) + 2) for size, start in zip(shape, target)])
        counts = counts if self.choose.random() < 0.1 else tuple([
            min(count, max(size - start, 1)) for count, size, start in zip(counts, shape, target)
        ])
        return self.known("array"), tuple([self.choose.randrange(4) for _ in shape]), target, counts

    def known(self, *sorts):
        found = [path for path, thing in self.plain.things.items() if thing["sort"] in sorts]
        return self.choose.choice(found) if found and self.choose.random() < 0.95 else self.path()

    def shape_at(self, path):
        return self.plain.things.get(path, {}).get("shape", (3,))

    def next(self):
        """The name of a deed and its arguments."""
        choices = {
            "make_group": self.group, "make_array": self.array, "make_view": self.view, "add_piece": self.added_piece,
            "remove": lambda: ((self.path(0.8),), {}), "move": self.two_paths, "duplicate": self.two_paths,
            "set_attribute": self.attribute, "remove_attribute": self.lost_attribute, "write": self.writing,
            "resize": self.resizing, "commit": lambda: ((), {}), "discard": lambda: ((), {}),
        }
        weights = [5, 7, 4, 3, 1, 4, 5, 4, 2, 14, 5, 2, 1]
        name = self.choose.choices(list(choices), weights)[0]
        arguments, named = choices[name]()
        return name, arguments, named

    def group(self):
        return (self.path(0.1),), {}

    def array(self):
        dimensions, kind = self.choose.randrange(4), self.kind()
        chunks = tuple([self.choose.randrange(1, 4) for _ in range(dimensions)])
        named = {"chunks": chunks if self.choose.random() < 0.95 else chunks + (1,)}
        if self.choose.random() < 0.5:
            named["fill"] = self.value(kind)
        if self.choose.random() < 0.7:
            named["filters"] = self.choose.choice(FILTERS)
        return (self.path(0.1), kind, self.shape(dimensions)), named

    def view(self):
        dimensions, kind = self.choose.randrange(4), self.kind()
        shape = self.shape(dimensions)
        named = {"pieces": [self.piece(shape) for _ in range(self.choose.randrange(4))]}
        if self.choose.random() < 0.5:
            named["fill"] = self.value(kind)
        return (self.path(0.1), kind, shape), named

    def added_piece(self):
        path = self.known("view")
        return (path, self.piece(self.shape_at(path))), {}

    def two_paths(self):
        return (self.path(0.9), self.path(0.2)), {}

    def attribute(self):
        value = self.choose.choice(["", "some text", "not so\n", (), (1, -10 ** 29), (10 ** 30,)])
        return (self.path(), self.choose.choice(["x", "y", "z0", "Z"]), value), {}

    def lost_attribute(self):
        return (self.path(), self.choose.choice(["x", "y", "z0"])), {}

    def writing(self):
        path = self.known("array")
        selection = self.selection(self.shape_at(path))
        kind = self.plain.things.get(path, {}).get("kind", "u1")
        count = 1
        for part in selection[1] if selection[0] == "box" else []:
            count *= part[2]
        if selection[0] == "points":
            count = len(selection[1])
        values = [self.value(kind) for _ in range(count + (self.choose.random() < 0.02))]
        return (path, selection, values), {}

    def resizing(self):
        path = self.known("array")
        dimensions = len(self.shape_at(path)) + (self.choose.random() < 0.03)
        return (path, self.shape(dimensions)), {}


class ReckoningTests(unittest.TestCase):
    def run_deeds(self, seed, count):
        deeds = Deeds(seed)
        disk = Disk([])
        store, plain = new_store(disk), deeds.plain
        refused = 0
        for _ in range(count):
            name, arguments, named = deeds.next()
            told = repr((name, arguments, named))
            error = error_of(lambda: getattr(plain, name)(*arguments, **named))
            self.assertEqual(error_of(lambda: getattr(store, name)(*arguments, **named)), error, told)
            self.assertEqual(repr((name, arguments, named)), told)
            self.assertEqual(snapshot(store), snapshot(plain), told)
            self.assertEqual(store.batch, plain.batch)
            refused += error is not None
            if name == "commit" and deeds.choose.random() < 0.5:
                store = open_store(disk)
        return refused

    def test_many_mixed_deeds(self):
        refused = sum(self.run_deeds(seed, 150) for seed in range(24))
        self.assertTrue(500 < refused < 2500)

    def test_a_long_row_of_deeds(self):
        self.run_deeds(1000, 500)


if __name__ == "__main__":
    unittest.main()
