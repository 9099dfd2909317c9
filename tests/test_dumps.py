"""Dumps (points 49 and 50)."""

import random
import unittest

from tessera.disks import Disk
from tessera.dumps import dump
from tessera.errors import Damaged
from tessera.inspecting import compacted
from tessera.loading import load
from tessera.opening import new_store, open_store
from tessera.selections import whole

from tests.plain_dumps import dump_of, first_fault
from tests.test_damage import Example, example_disk
from tests.test_reckoning import Deeds
from tests.tools import damaged_disk, error_of, outcome, snapshot


def both(seed, count):
    """A store and a plain store after the same mixed deeds."""
    deeds = Deeds(seed)
    disk = Disk([])
    store = new_store(disk)
    for _ in range(count):
        name, arguments, named = deeds.next()
        if name in ("commit", "discard"):
            continue
        error_of(lambda: getattr(store, name)(*arguments, **named))
        error_of(lambda: getattr(deeds.plain, name)(*arguments, **named))
    return disk, store, deeds.plain


class ExampleTests(unittest.TestCase):
    def test_the_example(self):
        store = new_store(Disk([]))
        store.make_array("a", "i1", (3,), chunks=(2,))
        store.write("a", ("box", ((0, 1, 1),)), [-4])
        self.assertEqual(dump(store), "group /\narray a i1\nshape 3\nfill 0\nchunks 2\nfilters\nchunk 0 : -4 0")


class LineTests(unittest.TestCase):
    def setUp(self):
        self.store = new_store(Disk([]))

    def shows(self, *lines):
        self.assertEqual(dump(self.store).split("\n"), ["group /"] + list(lines))
        self.assertEqual(dump(load(Disk([]), dump(self.store))), dump(self.store))

    def test_a_new_store(self):
        self.assertEqual(dump(self.store), "group /")

    def test_groups_in_ascending_order_of_the_keys(self):
        for path in ("b", "a", "a0", "a/z", "a/0", "a/0/x"):
            self.store.make_group(path)
        self.shows("group a", "group a/0", "group a/0/x", "group a/z", "group a0", "group b")

    def test_attributes(self):
        for name, value in [("t", "two  words "), ("e", ""), ("l", ()), ("n", (0, -1, 10 ** 30 - 1)), ("0", " "), ("s", ": 1")]:
            self.store.set_attribute("", name, value)
        self.shows("text 0  ", "text e ", "list l", "list n 0 -1 " + "9" * 30, "text s : 1", "text t two  words ")
        self.store.remove_attribute("", "n")
        self.shows("text 0  ", "text e ", "list l", "text s : 1", "text t two  words ")

    def test_attributes_of_arrays_and_views(self):
        self.store.make_array("a", "u1", (1,), chunks=(1,))
        self.store.make_view("v", "u1", (1,), pieces=[])
        self.store.set_attribute("a", "x", (1, 2))
        self.store.set_attribute("v", "y", "z")
        self.shows(
            "array a u1", "list x 1 2", "shape 1", "fill 0", "chunks 1", "filters",
            "view v u1", "text y z", "shape 1", "fill 0",
        )

    def test_arrays_of_none_to_four_dimensions(self):
        self.store.make_array("a0", "i4", (), chunks=(), fill=-5)
        self.store.make_array("a1", "i1", (4,), chunks=(3,), fill=1, filters=("runs",))
        self.store.make_array("a2", "u2", (2, 3), chunks=(2, 2), filters=("planes", "delta", "delta"))
        self.store.make_array("a3", "u1", (1, 0, 2), chunks=(1, 1, 1))
        self.store.make_array("a4", "u4", (1, 2, 1, 1), chunks=(1, 1, 1, 2), fill=9)
        self.store.write("a0", ("box", ()), [-2 ** 31])
        self.store.write("a1", whole((4,)), [1, 2, 3, -4])
        self.store.write("a2", ("points", ((1, 2), (0, 0))), [65535, 7])
        self.store.write("a4", ("points", ((0, 1, 0, 0),)), [2 ** 32 - 1])
        self.shows(
            "array a0 i4", "shape", "fill -5", "chunks", "filters", "chunk : -2147483648",
            "array a1 i1", "shape 4", "fill 1", "chunks 3", "filters runs", "chunk 0 : 1 2 3", "chunk 1 : -4 1 1",
            "array a2 u2", "shape 2 3", "fill 0", "chunks 2 2", "filters planes delta delta",
            "chunk 0 0 : 7 0 0 0", "chunk 0 1 : 0 0 65535 0",
            "array a3 u1", "shape 1 0 2", "fill 0", "chunks 1 1 1", "filters",
            "array a4 u4", "shape 1 2 1 1", "fill 9", "chunks 1 1 1 2", "filters", "chunk 0 1 0 0 : 4294967295 9",
        )

    def test_chunks_in_ascending_order_of_the_grid_indexes(self):
        self.store.make_array("a", "u1", (30,), chunks=(1,))
        for at in (29, 3, 11, 2, 20):
            self.store.write("a", ("points", ((at,),)), [at])
        self.shows(
            "array a u1", "shape 30", "fill 0", "chunks 1", "filters", "chunk 2 : 2", "chunk 3 : 3", "chunk 11 : 11",
            "chunk 20 : 20", "chunk 29 : 29",
        )

    def test_a_chunk_that_has_only_the_fill_value_but_a_record(self):
        self.store.make_array("a", "u1", (4,), chunks=(2,), fill=3)
        self.store.write("a", ("points", ((2,),)), [3])
        self.shows("array a u1", "shape 4", "fill 3", "chunks 2", "filters", "chunk 1 : 3 3")

    def test_arrays_after_resizing(self):
        self.store.make_array("a", "u1", (2, 4), chunks=(2, 2))
        self.store.write("a", whole((2, 4)), [1, 2, 3, 4, 5, 6, 7, 8])
        self.store.resize("a", (1, 3))
        head = ["fill 0", "chunks 2 2", "filters"]
        self.shows("array a u1", "shape 1 3", *head, "chunk 0 0 : 1 2 0 0", "chunk 0 1 : 3 0 0 0")
        self.store.resize("a", (3, 2))
        self.shows("array a u1", "shape 3 2", *head, "chunk 0 0 : 1 2 0 0")
        self.store.resize("a", (0, 2))
        self.shows("array a u1", "shape 0 2", *head)

    def test_views_with_none_to_ten_pieces(self):
        self.store.make_view("v", "i2", (3, 2), pieces=[], fill=-1)
        self.store.make_view("w", "u4", (), pieces=[], fill=4294967295)
        piece = ("some/path", (10 ** 29, 0), (1, 0), (2, 2))
        lines = []
        for count in range(10):
            self.shows("view v i2", "shape 3 2", "fill -1", *lines, "view w u4", "shape", "fill 4294967295", *["piece a"] * count)
            self.store.add_piece("v", piece)
            self.store.add_piece("w", ("a", (), (), ()))
            lines.append("piece some/path 1" + "0" * 29 + " 0 1 0 2 2")
        self.shows("view v i2", "shape 3 2", "fill -1", *lines, "view w u4", "shape", "fill 4294967295", *["piece a"] * 10)


class StoreTests(unittest.TestCase):
    def test_against_plain_reckoning(self):
        for seed in range(100, 124):
            _, store, plain = both(seed, 90)
            text = dump(store)
            self.assertEqual(text, dump_of(store, plain))
            self.assertIsNone(first_fault(text))

    def test_asked_twice_and_after_a_commit(self):
        for seed in (131, 132):
            disk, store, _ = both(seed, 60)
            text = dump(store)
            self.assertEqual(dump(store), text)
            store.commit()
            self.assertEqual(dump(store), text)
            self.assertEqual(dump(open_store(disk)), text)
            self.assertEqual(dump(open_store(compacted(disk))), text)

    def test_the_present_batch_is_in_it(self):
        store = new_store(Disk([]))
        store.make_group("a")
        self.assertEqual(dump(store), "group /\ngroup a")
        store.discard()
        self.assertEqual(dump(store), "group /")

    def test_nothing_changes_by_it(self):
        disk, store, _ = both(133, 60)
        store.commit()
        before, shown = disk.part(0, len(disk)), snapshot(store)
        dump(store)
        store.commit()
        self.assertEqual(disk.part(0, len(before)), before)
        self.assertEqual((len(disk), snapshot(store)), (len(before) + 56, shown))

    def test_the_dump_of_the_loaded_dump(self):
        for seed in range(140, 152):
            _, store, _ = both(seed, 80)
            text = dump(store)
            disk = Disk([])
            loaded = load(disk, text)
            self.assertEqual(dump(loaded), text)
            self.assertEqual(snapshot(loaded), snapshot(store))
            self.assertEqual(dump(open_store(disk)), text)
            self.check_further(seed, store, loaded)

    def check_further(self, seed, store, loaded):
        """The same deeds on both leave the same dumps: resizes, moves, copies and removals among them."""
        deeds = Deeds(seed + 1000)
        for path in store.paths()[1:]:
            deeds.plain.things[path] = {"sort": store.kind_at(path), "attributes": {}}
            if store.kind_at(path) != "group":
                deeds.plain.things[path]["shape"] = store.shape_of(path)
        choose = random.Random(seed)
        for _ in range(60):
            name, arguments, named = deeds.next()
            told = error_of(lambda: getattr(store, name)(*arguments, **named))
            self.assertEqual(error_of(lambda: getattr(loaded, name)(*arguments, **named)), told)
            if name == "discard":
                break
            if choose.random() < 0.2:
                self.assertEqual(dump(loaded), dump(store))
                self.assertEqual(dump(load(Disk([]), dump(store))), dump(store))

    def test_after_resizes_moves_copies_and_removals(self):
        disk = example_disk()
        store = open_store(disk)
        for deed in (
            lambda: store.resize("g/a", (7,)), lambda: store.duplicate("g", "h"), lambda: store.move("c", "d/y"),
            lambda: store.resize("h/a", (25,)), lambda: store.remove("g/z"), lambda: store.remove("b"),
            lambda: store.resize("d/y/g/z", (0, 5)), lambda: store.move("v", "w"), store.commit,
        ):
            deed()
            text = dump(store)
            self.assertIsNone(first_fault(text))
            self.assertEqual(dump(load(Disk([]), text)), text)


class DamageTests(unittest.TestCase):
    def test_each_damaged_record_is_needed(self):
        example = Example()
        text = dump(open_store(example.disk.copied()))
        for pointer in example.pointers:
            store = open_store(damaged_disk(example.disk, pointer, pointer[1] // 2))
            self.assertEqual(outcome(lambda: dump(store)), ("damaged", pointer))
        for at in range(0, len(example.disk), 97):
            if not any(start <= at < start + length for start, length in example.pointers):
                disk = example.disk.copied()
                disk.change(at, (disk.part(at, 1)[0] + 1) % 250)
                self.assertEqual(dump(open_store(disk)), text)

    def test_several_damaged_records(self):
        example = Example()
        disk = example.disk
        for pointer in example.pointers[::5]:
            disk = damaged_disk(disk, pointer)
        with self.assertRaises(Damaged) as caught:
            dump(open_store(disk))
        self.assertIn((caught.exception.address, caught.exception.length), example.pointers[::5])


if __name__ == "__main__":
    unittest.main()
