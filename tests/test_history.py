"""Earlier batches, looks at them, and the changes between two (points 52 to 54)."""

import itertools
import random
import unittest

from tessera.disks import Disk
from tessera.errors import InvalidPath, NotAnArray, NotFound, UnknownBatch
from tessera.history import batches, changed_chunks, changed_paths, look_at
from tessera.opening import new_store, open_store
from tessera.seals import seal_at
from tessera.selections import whole

from tests.plain_store import indexes_of
from tests.test_cuts import batches_of_many_sorts
from tests.test_damage import Example
from tests.test_reckoning import Deeds
from tests.tools import damaged_disk, error_of, node_at, nodes_of, outcome, snapshot

WORDS = ("added", "removed", "changed")
ASKED_PATHS = ["", "a", "b", "g", "g/a", "h/a", "i/a", "v", "a/b", "A", "a//b", "/", "x" * 13]


def bytes_of(disk):
    return disk.part(0, len(disk))


def seal_places(disk):
    """Where whole seals begin, with the number of the batch and the root pointer."""
    found = [(at, seal_at(disk, at)) for at in range(len(disk))]
    return [(at, told) for at, told in found if told is not None]


def table_of(disk, root):
    """All keys and pointers of a tree, read without the program's own reading of trees."""
    table = {}
    for pointer, _, _ in nodes_of(disk, root):
        kind, pairs = node_at(disk, pointer)
        table.update(pairs if kind == 1 else [])
    return table


def directory(disk, batch):
    """The paths of a batch and their pointers."""
    root = dict(told for _, told in seal_places(disk))[batch]
    return {"".join(map(chr, key)): pointer for key, pointer in table_of(disk, root).items()}


def answers(asked):
    """Everything that a store or a look says, errors included."""
    selections = [whole(()), whole((1,)), ("points", ((0,), (0,))), ("box", ((0, 2, 1), (0, 1, 1))), ("points", ((9, 9),))]
    found = [asked.batch, asked.paths()]
    for path in ASKED_PATHS + asked.paths():
        for method in ("attributes_of", "kind_at", "shape_of", "pieces_of", "names_in"):
            found.append(error_of(lambda: getattr(asked, method)(path)) or getattr(asked, method)(path))
        found.append(error_of(lambda: asked.layout_of(path)) or vars(asked.layout_of(path)))
        for selection in selections:
            found.append(error_of(lambda: asked.read(path, selection)) or asked.read(path, selection))
        for grid in ((), (0,), (1,), (0, 0), (7, 7)):
            found.append(error_of(lambda: asked.chunk_pointer(path, grid)) or asked.chunk_pointer(path, grid))
    return found


class Sealed:
    """A store with many batches, and what it said when each of them was sealed."""

    def __init__(self, seed, count):
        deeds = Deeds(seed)
        self.disk = Disk([])
        store = new_store(self.disk)
        self.told = {0: (answers(store), snapshot(store))}
        while store.batch < count:
            name, arguments, named = deeds.next()
            if name != "commit":
                error_of(lambda: getattr(store, name)(*arguments, **named))
                error_of(lambda: getattr(deeds.plain, name)(*arguments, **named))
                if deeds.choose.random() < 0.8:
                    continue
            store.commit()
            deeds.plain.commit()
            self.told[store.batch] = (answers(store), snapshot(store))


def shared_example():
    """Three batches with an array of six chunks that is copied, changed and resized."""
    disk = Disk([])
    store = new_store(disk)
    store.make_array("a", "u1", (6, 4), chunks=(2, 2))
    store.write("a", ("box", ((0, 1, 4), (0, 1, 4))), list(range(1, 17)))
    store.make_group("g")
    store.make_view("v", "u1", (2,), pieces=[])
    store.commit()
    store.duplicate("a", "g/a")
    store.write("a", ("points", ((0, 3), (5, 0))), [99, 98])
    store.set_attribute("v", "n", "x")
    store.commit()
    store.resize("a", (2, 3))
    store.remove("v")
    store.make_group("v")
    store.commit()
    return disk


def arrays_of_many_batches(seed):
    """A disk whose batches write to arrays, resize, copy and remove them, and make them anew."""
    choose = random.Random(seed)
    disk = Disk([])
    store = new_store(disk)
    for _ in range(8):
        for _ in range(choose.randrange(5)):
            path, other = choose.choice("abc"), choose.choice("abc")
            shape = (choose.randrange(7), choose.randrange(4))
            indexes = indexes_of(shape)
            if choose.random() < 0.3:
                error_of(lambda: store.duplicate(path, other))
            elif choose.random() < 0.2:
                error_of(lambda: store.remove(path))
            elif choose.random() < 0.3:
                error_of(lambda: store.resize(path, shape))
            error_of(lambda: store.make_array(path, "u1", shape, chunks=(2, choose.randrange(1, 3))))
            if indexes:
                points = ("points", tuple([choose.choice(indexes) for _ in range(choose.randrange(4))]))
                error_of(lambda: store.write(path, points, [choose.randrange(256) for _ in points[1]]))
        store.commit()
    return disk


class ExampleTests(unittest.TestCase):
    def test_the_example(self):
        disk = Disk([])
        store = new_store(disk)
        store.make_group("a")
        store.commit()
        self.assertEqual([batches(disk), look_at(disk, 0).paths(), look_at(disk, 1).paths()], [[0, 1], [""], ["", "a"]])


class BatchesTests(unittest.TestCase):
    def test_whole_files(self):
        disk = Disk([])
        self.assertEqual(batches(disk), [])
        store = new_store(disk)
        for number in range(5):
            self.assertEqual(batches(disk), list(range(number + 1)))
            store.make_group("g" + str(number))
            self.assertEqual(batches(disk), list(range(number + 1)))
            store.commit()

    def test_cut_files(self):
        history = batches_of_many_sorts()
        for count in range(len(history.disk) + 1):
            disk = Disk(history.disk.part(0, count))
            self.assertEqual(batches(disk), [batch for end, batch, _ in history.kept if end <= count])
            self.assertEqual(len(disk), count)

    def test_changed_files(self):
        history = batches_of_many_sorts()
        for at in range(len(history.disk)):
            disk = history.disk.copied()
            for byte in (255, 254, disk.part(at, 1)[0] ^ 1):
                if byte != history.disk.part(at, 1)[0]:
                    disk.change(at, byte)
                    self.assertEqual(batches(disk), [0, 1, 2, 3, 4, 5])

    def test_files_without_some_seals(self):
        disk = batches_of_many_sorts().disk
        for at, (number, _) in seal_places(disk):
            if number in (0, 3):
                disk.change(at + 5, (disk.part(at + 5, 1)[0] + 1) % 250)
        self.assertEqual(batches(disk), [1, 2, 4, 5])
        for number in (0, 3, 6, -1, 10 ** 20):
            self.assertEqual(error_of(lambda: look_at(disk, number)), (UnknownBatch, {"missing": number}))

    def test_what_is_no_store(self):
        for values in ([], [1, 2, 3], [255] * 60):
            self.assertEqual(batches(Disk(values)), [])
            self.assertEqual(error_of(lambda: look_at(Disk(values), 0)), (UnknownBatch, {"missing": 0}))


class LookTests(unittest.TestCase):
    def test_a_look_shows_what_the_store_showed(self):
        for seed in (11, 12, 13):
            sealed = Sealed(seed, 10)
            before = bytes_of(sealed.disk)
            for batch, (said, shown) in sealed.told.items():
                look = look_at(sealed.disk, batch)
                self.assertEqual(look.batch, batch)
                self.assertEqual(answers(look), said)
                self.assertEqual(snapshot(look), shown)
            self.assertEqual(bytes_of(sealed.disk), before)

    def test_looks_at_all_cuts(self):
        history = batches_of_many_sorts()
        for count in range(history.kept[0][0], len(history.disk) + 1, 23):
            disk = Disk(history.disk.part(0, count))
            for end, batch, shown in history.kept:
                if end <= count:
                    self.assertEqual(snapshot(look_at(disk, batch)), shown)
                else:
                    self.assertEqual(error_of(lambda: look_at(disk, batch)), (UnknownBatch, {"missing": batch}))
            self.assertEqual(len(disk), count)

    def test_whatever_happens_later(self):
        disk = shared_example()
        look = look_at(disk, 1)
        said = answers(look)
        store = open_store(disk)
        store.remove("a")
        self.assertEqual(answers(look), said)
        store.commit()
        store.make_group("a")
        store.commit()
        self.assertEqual((answers(look), answers(look_at(disk, 1))), (said, said))
        self.assertEqual(look_at(disk, 5).kind_at("a"), "group")

    def test_deeds_of_the_present_batch_are_not_seen(self):
        disk = shared_example()
        store = open_store(disk)
        due = answers(look_at(disk, 3))
        store.remove("a")
        self.assertEqual(answers(look_at(disk, 3)), due)

    def test_lists_that_are_returned_are_new(self):
        look = look_at(shared_example(), 2)
        look.attributes_of("v").clear()
        look.paths().clear()
        look.names_in("g").clear()
        look.read("a", whole((6, 4))).clear()
        self.assertEqual((look.attributes_of("v"), look.names_in("g")), ([("n", "x")], ["a"]))

    def test_views_look_up_what_was_there_then(self):
        disk = Disk([])
        store = new_store(disk)
        store.make_array("a", "u1", (2,), chunks=(1,), fill=1)
        store.make_view("v", "u1", (2,), pieces=[("a", (0,), (0,), (2,))], fill=9)
        store.commit()
        store.write("a", whole((2,)), [5, 6])
        store.commit()
        store.remove("a")
        store.commit()
        shown = [look_at(disk, batch).read("v", whole((2,))) for batch in (1, 2, 3)]
        self.assertEqual(shown, [[1, 1], [5, 6], [9, 9]])

    def test_damage(self):
        # A read of the last batch needs what a read of the store needs.
        example = Example()
        due = example.answers(look_at(example.disk, 4))
        self.assertEqual(due, example.answers(open_store(example.disk.copied())))
        for pointer in example.pointers:
            look = look_at(damaged_disk(example.disk, pointer, 1), 4)
            for (ask, needed), answer in zip(example.questions, due):
                self.assertEqual(outcome(lambda: ask(look)), ("damaged", pointer) if pointer in needed else answer)

    def test_damage_of_other_batches_is_not_seen(self):
        example = Example()
        shown = {batch: snapshot(look_at(example.disk, batch)) for batch in range(5)}
        for at in range(0, len(example.disk), 53):
            disk = example.disk.copied()
            disk.change(at, (disk.part(at, 1)[0] + 1) % 250)
            for batch in range(5):
                word, got = outcome(lambda: snapshot(look_at(disk, batch)))
                if word == "damaged":
                    self.assertTrue(got[0] <= at < sum(got))
                else:
                    self.assertEqual(got, shown[batch])


class ChangedPathsTests(unittest.TestCase):
    def test_a_small_store(self):
        disk = shared_example()
        self.assertEqual(changed_paths(disk, 0, 1), [("added", "a"), ("added", "g"), ("added", "v")])
        self.assertEqual(changed_paths(disk, 1, 0), [("removed", "a"), ("removed", "g"), ("removed", "v")])
        self.assertEqual(changed_paths(disk, 1, 2), [("changed", "a"), ("added", "g/a"), ("changed", "v")])
        self.assertEqual(changed_paths(disk, 2, 1), [("changed", "a"), ("removed", "g/a"), ("changed", "v")])
        self.assertEqual(changed_paths(disk, 2, 3), [("changed", "a"), ("changed", "v")])

    def test_equal_batches(self):
        disk = shared_example()
        for batch in range(4):
            self.assertEqual(changed_paths(disk, batch, batch), [])

    def test_against_the_directories(self):
        for seed in (21, 22):
            sealed = Sealed(seed, 8)
            tables = {batch: directory(sealed.disk, batch) for batch in sealed.told}
            for first in tables:
                for second in tables:
                    self.check_paths(sealed, tables[first], tables[second], first, second)

    def check_paths(self, sealed, before, after, first, second):
        due = []
        for path in sorted(set(before) | set(after)):
            if path not in before or path not in after:
                due.append(("added" if path in after else "removed", path))
            elif before[path] != after[path]:
                due.append(("changed", path))
        self.assertEqual(changed_paths(sealed.disk, first, second), due)
        # What is in both and not listed is read alike.
        facts = [dict(sealed.told[batch][1]) for batch in (first, second)]
        listed = [path for _, path in due]
        for path in before:
            if path not in listed:
                one, other = facts[0][path], facts[1][path]
                if one[0] != "array":
                    one, other = one[:3] + one[4:], other[:3] + other[4:]
                if one[0] != "group":
                    self.assertEqual(one, other)

    def test_missing_batches(self):
        disk = shared_example()
        for first, second, missing in [(4, 0, 4), (0, 4, 4), (5, 4, 5), (-1, 7, -1), (4, 4, 4)]:
            due = (UnknownBatch, {"missing": missing})
            self.assertEqual(error_of(lambda: changed_paths(disk, first, second)), due)
            for path in ("a", "A", "none", "g"):
                self.assertEqual(error_of(lambda: changed_chunks(disk, first, second, path)), due)

    def test_the_disk_does_not_change(self):
        disk = shared_example()
        disk.append([1, 2, 3])
        before = bytes_of(disk)
        changed_paths(disk, 0, 3)
        changed_chunks(disk, 1, 3, "a")
        self.assertEqual(bytes_of(disk), before)


class ChangedChunksTests(unittest.TestCase):
    def test_a_small_store(self):
        disk = shared_example()
        self.assertEqual(changed_chunks(disk, 1, 2, "a"), [(0, 1), (2, 0)])
        self.assertEqual(changed_chunks(disk, 2, 1, "a"), [(0, 1), (2, 0)])
        # The copy shares its chunks with the first array.
        self.assertEqual(changed_chunks(disk, 2, 3, "g/a"), [])
        listed = changed_chunks(disk, 2, 3, "a")
        self.assertEqual(listed, sorted(listed))
        self.assertLessEqual({(0, 1), (1, 0), (1, 1), (2, 0)}, set(listed))
        self.assertEqual(changed_chunks(disk, 3, 2, "a"), listed)

    def test_equal_batches(self):
        disk = shared_example()
        for batch in (1, 2, 3):
            self.assertEqual(changed_chunks(disk, batch, batch, "a"), [])

    def test_against_the_indexes(self):
        for seed in range(4):
            disk = arrays_of_many_batches(seed)
            for first, second in itertools.product(batches(disk), repeat=2):
                looks = look_at(disk, first), look_at(disk, second)
                for path in sorted(set(looks[0].paths()) & set(looks[1].paths()) - {""}):
                    self.check_chunks(disk, first, second, path, looks)

    def check_chunks(self, disk, first, second, path, looks):
        shapes = [look.shape_of(path) for look in looks]
        same_form = shapes[0] == shapes[1] and looks[0].layout_of(path) == looks[1].layout_of(path)
        got = changed_chunks(disk, first, second, path)
        if len(shapes[0]) != len(shapes[1]):
            return
        due = []
        for grid in indexes_of(tuple([max(sizes) for sizes in zip(*shapes)])):
            pointers = [look.chunk_pointer(path, grid) for look in looks]
            due += [grid] if pointers[0] != pointers[1] else []
        self.assertEqual(got, due)
        if same_form:
            chunk_shape = looks[0].layout_of(path).chunk_shape
            for index in indexes_of(shapes[0]):
                if tuple([place // size for place, size in zip(index, chunk_shape)]) not in got:
                    selection = ("points", (index,))
                    self.assertEqual(looks[0].read(path, selection), looks[1].read(path, selection))

    def test_errors_in_their_order(self):
        disk = shared_example()
        for first, second, path, error in [
            (1, 2, "A", InvalidPath), (1, 2, "a//b", InvalidPath), (0, 1, "/", InvalidPath), (1, 1, "x" * 13, InvalidPath),
            (0, 1, "a", NotFound), (1, 0, "a", NotFound), (0, 0, "a", NotFound), (1, 2, "none", NotFound),
            # It is missing in one of the directories, and no array in the other one.
            (0, 1, "g", NotFound), (1, 0, "v", NotFound), (1, 2, "g/a", NotFound), (2, 1, "g/a", NotFound),
            (1, 2, "g", NotAnArray), (1, 2, "", NotAnArray), (1, 2, "v", NotAnArray), (2, 3, "v", NotAnArray),
        ]:
            due = (error, {"path": path})
            self.assertEqual(error_of(lambda: changed_chunks(disk, first, second, path)), due, (first, second, path))

    def test_an_array_in_one_batch_only(self):
        disk = Disk([])
        store = new_store(disk)
        store.make_array("a", "u1", (2,), chunks=(1,))
        store.commit()
        store.remove("a")
        store.make_group("a")
        store.commit()
        for first, second in ((1, 2), (2, 1)):
            due = (NotAnArray, {"path": "a"})
            self.assertEqual(error_of(lambda: changed_chunks(disk, first, second, "a")), due)


if __name__ == "__main__":
    unittest.main()
