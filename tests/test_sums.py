"""Sums over selections, and first differences (point 51)."""

import unittest

from tessera.disks import Disk
from tessera.errors import InvalidPath, InvalidSelection, InvalidShape, NotAnArray, NotFound, TooLarge
from tessera.opening import new_store, open_store
from tessera.selections import whole
from tessera.sums import first_difference, summary

from tests.plain_store import indexes_of
from tests.test_damage import Example
from tests.test_reckoning import Deeds
from tests.tools import damaged_disk, error_of, outcome, snapshot


def example_store():
    store = new_store(Disk([]))
    store.make_group("g")
    store.make_array("a", "i2", (3, 4), chunks=(2, 2), fill=-1)
    store.write("a", ("box", ((0, 1, 2), (0, 1, 4))), [5, -6, 7, 8, 9, 10, 300, -400])
    store.make_array("b", "i4", (3, 4), chunks=(1, 4), fill=-1, filters=("runs",))
    store.write("b", ("box", ((0, 1, 2), (0, 1, 4))), [5, -6, 7, 8, 9, 10, 300, -400])
    store.make_view("v", "i2", (3, 4), pieces=[("a", (0, 0), (0, 0), (2, 4))], fill=-1)
    store.make_array("s", "u1", (), chunks=(), fill=3)
    store.make_array("e", "u1", (0, 10 ** 9), chunks=(1, 1))
    store.make_array("f", "i4", (0, 10 ** 9), chunks=(2, 2), fill=7)
    store.make_array("big", "u1", (100001,), chunks=(4096,))
    store.make_array("full", "u1", (100000,), chunks=(4096,), fill=2)
    return store


def wrong_reads():
    """Paths and selections that reading refuses, with the error."""
    return [
        ("A", whole(()), (InvalidPath, {"path": "A"})), ("none", whole(()), (NotFound, {"path": "none"})),
        ("g", whole(()), (NotAnArray, {"path": "g"})), ("", whole(()), (NotAnArray, {"path": ""})),
        ("a", whole((3, 5)), (InvalidSelection, {})), ("a", ("points", ((0,),)), (InvalidSelection, {})),
        ("v", whole((4, 4)), (InvalidSelection, {})), ("big", whole((100001,)), (TooLarge, {"limit": 100000})),
        ("s", ("points", ((),) * 100001), (TooLarge, {"limit": 100000})),
    ]


class SummaryTests(unittest.TestCase):
    def setUp(self):
        self.store = example_store()

    def test_boxes(self):
        self.assertEqual(summary(self.store, "a", whole((3, 4))), (12, -71, -400, 300))
        self.assertEqual(summary(self.store, "a", ("box", ((0, 1, 1), (0, 2, 2)))), (2, 12, 5, 7))
        self.assertEqual(summary(self.store, "v", whole((3, 4))), (12, -71, -400, 300))
        self.assertEqual(summary(self.store, "s", whole(())), (1, 3, 3, 3))

    def test_points_and_repeated_points(self):
        self.assertEqual(summary(self.store, "a", ("points", ((1, 2), (0, 1), (1, 2)))), (3, 594, -6, 300))
        self.assertEqual(summary(self.store, "s", ("points", ((), (), ()))), (3, 9, 3, 3))
        self.assertEqual(summary(self.store, "v", ("points", ((2, 0), (2, 0)))), (2, -2, -1, -1))

    def test_nothing_is_picked(self):
        for path, selection in [
            ("a", ("points", ())), ("a", ("box", ((0, 1, 0), (0, 1, 4)))), ("v", ("points", ())),
            ("e", whole((0, 10 ** 9))), ("s", ("points", ())),
        ]:
            self.assertEqual(summary(self.store, path, selection), (0, 0, None, None))

    def test_the_most_that_can_be_picked(self):
        self.assertEqual(summary(self.store, "full", whole((100000,))), (100000, 200000, 2, 2))

    def test_errors(self):
        for path, selection, error in wrong_reads():
            self.assertEqual(error_of(lambda: summary(self.store, path, selection)), error)

    def test_against_reading(self):
        for seed in range(200, 210):
            deeds = Deeds(seed)
            store = new_store(Disk([]))
            for _ in range(60):
                name, arguments, named = deeds.next()
                error_of(lambda: getattr(store, name)(*arguments, **named))
                error_of(lambda: getattr(deeds.plain, name)(*arguments, **named))
            before = snapshot(store)
            for path in store.paths():
                if store.kind_at(path) != "group":
                    selection = deeds.selection(store.shape_of(path))
                    error = error_of(lambda: store.read(path, selection))
                    self.assertEqual(error_of(lambda: summary(store, path, selection)), error)
                    if error is None:
                        values = sorted(store.read(path, selection))
                        ends = (values[0], values[-1]) if values else (None, None)
                        self.assertEqual(summary(store, path, selection), (len(values), sum(values)) + ends)
            self.assertEqual(snapshot(store), before)

    def test_damage(self):
        example = Example()
        selection = ("box", ((3, 1, 2),))
        needed = example.needs.read("g/a", selection)
        for pointer in example.pointers:
            store = open_store(damaged_disk(example.disk, pointer))
            due = ("damaged", pointer) if pointer in needed else ("gives", (2, 9, 4, 5))
            self.assertEqual(outcome(lambda: summary(store, "g/a", selection)), due)


class DifferenceTests(unittest.TestCase):
    def setUp(self):
        self.store = example_store()

    def differ(self, path, other, index):
        self.assertEqual(first_difference(self.store, path, other), index)
        self.assertEqual(first_difference(self.store, other, path), index)

    def test_alike(self):
        # How they are divided and stored does not matter (point 40).
        for path, other in [("a", "b"), ("a", "v"), ("b", "v"), ("a", "a"), ("v", "v"), ("s", "s"), ("full", "full")]:
            self.differ(path, other, None)

    def test_the_first_index_in_row_order(self):
        store = self.store
        store.write("b", ("points", ((2, 0), (1, 3))), [0, 0])
        self.differ("a", "b", (1, 3))
        store.write("b", ("points", ((2, 3), (1, 0))), [0, 0])
        self.differ("a", "b", (1, 0))
        self.differ("v", "b", (1, 0))
        store.write("b", ("points", ((0, 3),)), [0])
        self.differ("a", "b", (0, 3))
        store.write("b", ("points", ((0, 0),)), [0])
        self.differ("a", "b", (0, 0))

    def test_the_last_index(self):
        self.store.write("b", ("points", ((2, 3),)), [4])
        self.differ("a", "b", (2, 3))
        self.store.duplicate("full", "copy")
        self.store.write("copy", ("points", ((99999,),)), [4])
        self.differ("copy", "full", (99999,))

    def test_no_dimensions(self):
        self.store.make_array("t", "i4", (), chunks=())
        self.differ("s", "t", ())
        self.store.write("t", whole(()), [3])
        self.differ("s", "t", None)

    def test_shapes_without_elements(self):
        self.differ("e", "f", None)

    def test_the_present_batch(self):
        self.store.commit()
        self.store.write("a", ("points", ((2, 2),)), [0])
        self.differ("a", "b", (2, 2))
        self.store.discard()
        self.differ("a", "b", None)

    def test_errors_in_their_order(self):
        store = self.store
        for path, other, error in [
            ("A", "none", (InvalidPath, {"path": "A"})), ("none", "A", (NotFound, {"path": "none"})),
            ("g", "A", (NotAnArray, {"path": "g"})), ("", "A", (NotAnArray, {"path": ""})),
            ("a", "A", (InvalidPath, {"path": "A"})), ("a", "none", (NotFound, {"path": "none"})),
            ("a", "g", (NotAnArray, {"path": "g"})), ("big", "none", (NotFound, {"path": "none"})),
            ("a", "s", (InvalidShape, {})), ("s", "a", (InvalidShape, {})), ("a", "e", (InvalidShape, {})),
            ("big", "full", (InvalidShape, {})), ("big", "big", (TooLarge, {"limit": 100000})),
        ]:
            self.assertEqual(error_of(lambda: first_difference(store, path, other)), error, (path, other))

    def test_the_same_elements_in_another_shape(self):
        self.store.make_array("c", "i2", (4, 3), chunks=(2, 2), fill=-1)
        self.assertEqual(error_of(lambda: first_difference(self.store, "a", "c")), (InvalidShape, {}))

    def test_against_reading(self):
        found = 0
        for seed in range(220, 232):
            deeds = Deeds(seed)
            store = new_store(Disk([]))
            for _ in range(60):
                name, arguments, named = deeds.next()
                error_of(lambda: getattr(store, name)(*arguments, **named))
                error_of(lambda: getattr(deeds.plain, name)(*arguments, **named))
            shown = [(path, facts) for path, facts in snapshot(store) if facts[0] != "group"]
            for path, facts in shown:
                for other, facts_of_other in shown:
                    if facts[2] == facts_of_other[2]:
                        rows = zip(indexes_of(facts[2]), facts[3], facts_of_other[3])
                        due = [index for index, left, right in rows if left != right]
                        self.assertEqual(first_difference(store, path, other), due[0] if due else None)
                        found += len(due) > 0
        self.assertTrue(found > 5)

    def test_damage(self):
        example = Example()
        needed = example.needs.read("g/a", whole((20,))) | example.needs.read("c/g/a", whole((20,)))
        for pointer in example.pointers:
            store = open_store(damaged_disk(example.disk, pointer))
            due = ("damaged", pointer) if pointer in needed else ("gives", (3,))
            self.assertEqual(outcome(lambda: first_difference(store, "g/a", "c/g/a")), due)


if __name__ == "__main__":
    unittest.main()
