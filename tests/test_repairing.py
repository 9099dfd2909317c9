"""Repairing files (point 55)."""

import random
import unittest

from tessera.disks import Disk
from tessera.dumps import dump
from tessera.errors import NotAStore
from tessera.inspecting import compacted, inspect, live_pointers
from tessera.layouts import Layout
from tessera.logs import Log
from tessera.objects import ArrayObject, Group, View, write_object
from tessera.opening import new_store, open_store
from tessera.paths import key_of
from tessera.records import NOWHERE
from tessera.repairing import repaired
from tessera.seals import seal_at
from tessera.selections import whole
from tessera.trees import put

from tests.graphs import Graph
from tests.plain_store import indexes_of
from tests.test_cuts import batches_of_many_sorts
from tests.test_damage import example_disk
from tests.test_inspecting import large_disk, random_disk
from tests.tools import damaged_disk, error_of, snapshot

ORDER = ("path", "nodes", "chunk")


def bytes_of(disk):
    return disk.part(0, len(disk))


def broken(disk, pointers):
    """A copy of the disk in which these records are damaged."""
    copy = disk.copied()
    for pointer in pointers:
        copy = damaged_disk(copy, pointer, pointer[1] // 2)
    return copy


class Repairing(unittest.TestCase):
    """Compares what is repaired with what point 55 says, reckoned from the file before the damage."""

    def check(self, whole_disk, damaged):
        graph = Graph(whole_disk)
        disk = broken(whole_disk, damaged)
        before = bytes_of(disk)
        mended, losses = repaired(disk)
        self.assertEqual(bytes_of(disk), before)
        kept, due = graph.repair(damaged)
        self.assertEqual(losses, due)
        self.assertEqual(losses, sorted(losses, key=lambda loss: (loss[1], ORDER.index(loss[0]), loss[2:])))
        self.assertEqual(inspect(mended), [])
        store = open_store(mended)
        self.assertEqual((store.batch, store.paths()), (0, sorted(kept)))
        was = open_store(whole_disk.copied())
        for path, thing in kept.items():
            self.check_thing(store, path, thing)
            if isinstance(thing, ArrayObject):
                self.check_values(store, was, path, thing, graph.chunks_left(thing, damaged))
        return mended, losses

    def check_thing(self, store, path, thing):
        self.assertEqual(store.attributes_of(path), list(thing.attributes))
        if isinstance(thing, Group):
            self.assertEqual(store.kind_at(path), "group")
            return
        self.assertEqual(store.shape_of(path), thing.shape)
        if isinstance(thing, View):
            self.assertEqual((store.kind_at(path), store.pieces_of(path)), ("view", thing.pieces))
        else:
            self.assertEqual((store.kind_at(path), store.layout_of(path)), ("array", thing.layout))

    def check_values(self, store, was, path, array, grids):
        """Each value of a chunk that is left is as before; the others are the fill value."""
        values = was.read(path, whole(array.shape))
        for rank, index in enumerate(indexes_of(array.shape)):
            if tuple([at // size for at, size in zip(index, array.layout.chunk_shape)]) not in grids:
                values[rank] = array.layout.fill
        self.assertEqual(store.read(path, whole(array.shape)), values)
        for grid in grids:
            self.assertIsNotNone(store.chunk_pointer(path, grid))


class SoundTests(Repairing):
    def test_a_sound_file_loses_nothing(self):
        for disk in [example_disk(), batches_of_many_sorts().disk, large_disk(), random_disk(5), random_disk(6)]:
            mended, losses = self.check(disk, [])
            self.assertEqual(losses, [])
            self.assertEqual(snapshot(open_store(mended)), snapshot(open_store(disk.copied())))
            self.assertEqual(dump(open_store(mended)), dump(open_store(disk.copied())))
            self.assertEqual(bytes_of(mended), bytes_of(compacted(disk)))

    def test_one_batch(self):
        mended, _ = repaired(batches_of_many_sorts().disk)
        found = [seal_at(mended, at) for at in range(len(mended)) if seal_at(mended, at) is not None]
        self.assertEqual([number for number, _ in found], [0, 0])

    def test_files_that_are_cut(self):
        history = batches_of_many_sorts()
        for count in range(history.kept[0][0], len(history.disk) + 1, 7):
            disk = Disk(history.disk.part(0, count))
            mended, losses = repaired(disk)
            self.assertEqual((losses, len(disk)), ([], count))
            self.assertEqual(snapshot(open_store(mended)), history.shown_at(count)[1])

    def test_what_is_no_store(self):
        for values in ([], [1, 2, 3], [255] * 60, batches_of_many_sorts().disk.part(0, 39)):
            disk = Disk(values)
            self.assertEqual(error_of(lambda: repaired(disk)), (NotAStore, {}))
            self.assertEqual(bytes_of(disk), values)


class OneByteTests(Repairing):
    def test_each_changed_byte(self):
        whole_disk = batches_of_many_sorts().disk
        graph, pointers = Graph(whole_disk), live_pointers(whole_disk)
        for at in range(len(whole_disk)):
            disk = whole_disk.copied()
            byte = 255 if at % 5 == 0 else (disk.part(at, 1)[0] + 1) % 250
            if disk.part(at, 1) == [byte]:
                continue
            disk.change(at, byte)
            mended, losses = repaired(disk)
            kept, due = graph.repair([pointer for pointer in pointers if pointer[0] <= at < sum(pointer)])
            self.assertEqual((losses, inspect(mended)), (due, []))
            store = open_store(mended)
            self.assertEqual((store.batch, store.paths()), (0, sorted(kept)))
            for path in kept:
                self.check_thing(store, path, kept[path])

    def test_each_damaged_record(self):
        for disk in (example_disk(), large_disk()):
            step = 1 if len(disk) < 20000 else 29
            for pointer in live_pointers(disk)[::step]:
                _, losses = self.check(disk, [pointer])
                self.assertNotEqual(losses, [])


class LossTests(Repairing):
    """The forms of losses that point 55 names, one after another."""

    def setUp(self):
        self.disk = Disk([])
        self.store = store = new_store(self.disk)
        store.set_attribute("", "who", "root")
        store.make_group("g")
        store.make_group("g/h")
        store.make_array("g/h/a", "u1", (40,), chunks=(2,), fill=9)
        store.write("g/h/a", whole((40,)), list(range(40)))
        store.make_view("g/v", "u1", (2,), pieces=[("g/h/a", (0,), (0,), (2,))], fill=8)
        store.make_group("x")
        store.set_attribute("g/h", "unit", (1, 2))
        store.commit()
        self.graph = Graph(self.disk)
        self.pointers = self.graph.found(())[0]

    def test_a_damaged_array(self):
        mended, losses = self.check(self.disk, [self.pointers["g/h/a"]])
        self.assertEqual(losses, [("path", "g/h/a")])
        # The view names it still, and shows the fill value.
        self.assertEqual(open_store(mended).read("g/v", whole((2,))), [8, 8])

    def test_a_damaged_view(self):
        _, losses = self.check(self.disk, [self.pointers["g/v"]])
        self.assertEqual(losses, [("path", "g/v")])

    def test_a_damaged_parent_and_what_lies_below_it(self):
        mended, losses = self.check(self.disk, [self.pointers["g"]])
        self.assertEqual(losses, [("path", "g"), ("path", "g/h"), ("path", "g/h/a"), ("path", "g/v")])
        self.assertEqual(open_store(mended).paths(), ["", "x"])
        _, losses = self.check(self.disk, [self.pointers["g/h"]])
        self.assertEqual(losses, [("path", "g/h"), ("path", "g/h/a")])

    def test_the_root_group(self):
        mended, losses = self.check(self.disk, [self.pointers[""]])
        self.assertEqual(losses, [("path", "")])
        store = open_store(mended)
        self.assertEqual((store.attributes_of(""), store.names_in("")), ([], ["g", "x"]))
        self.assertEqual(store.read("g/h/a", whole((40,))), list(range(40)))

    def test_damaged_chunks(self):
        grids = [(0,), (7,), (19,), (2,)]
        pointers = [self.store.chunk_pointer("g/h/a", grid) for grid in grids]
        mended, losses = self.check(self.disk, pointers)
        self.assertEqual(losses, [("chunk", "g/h/a", grid) for grid in sorted(grids)])
        store = open_store(mended)
        for grid in range(20):
            pointer = store.chunk_pointer("g/h/a", (grid,))
            self.assertEqual(pointer is None, (grid,) in grids)
        values = store.read("g/h/a", ("box", ((0, 1, 8),)))
        self.assertEqual(values, [9, 9, 2, 3, 9, 9, 6, 7])

    def test_the_chunks_of_a_lost_array_are_not_listed(self):
        pointer = self.store.chunk_pointer("g/h/a", (3,))
        for lost in ("g/h/a", "g/h", "g"):
            _, losses = self.check(self.disk, [pointer, self.pointers[lost]])
            self.assertEqual([loss for loss in losses if loss[0] != "path"], [])
            self.assertIn(("path", "g/h/a"), losses)

    def test_nodes_of_an_index(self):
        root = self.graph.thing(self.pointers["g/h/a"]).root
        mended, losses = self.check(self.disk, [root])
        self.assertEqual(losses, [("nodes", "g/h/a")])
        self.assertEqual(open_store(mended).read("g/h/a", whole((40,))), [9] * 40)
        nodes = self.graph.walk(root, ())[0]
        self.assertTrue(len(nodes) > 3)
        chunk = self.graph.walk(root, ())[1][-1]
        _, losses = self.check(self.disk, [nodes[1], chunk[1]])
        self.assertEqual(losses, [("nodes", "g/h/a"), ("chunk", "g/h/a", (19,))])
        _, losses = self.check(self.disk, nodes[1:])
        self.assertEqual(losses, [("nodes", "g/h/a")])

    def test_all_nodes_of_the_directory(self):
        mended, losses = self.check(self.disk, [self.graph.root])
        self.assertEqual(losses, [("nodes", "")])
        self.assertEqual(snapshot(open_store(mended)), [("", ["group", [], []])])

    def test_some_nodes_of_a_directory(self):
        disk = large_disk()
        graph = Graph(disk)
        first, second = graph.walk(graph.root, ())[0][1:3]
        # The first leaf has the root's entry; the root is made without this loss.
        leaf = first if disk.part(first[0], 1) == [1] else second
        mended, losses = self.check(disk, [leaf])
        self.assertEqual(losses[0], ("nodes", ""))
        self.assertNotIn(("path", ""), losses)
        self.assertEqual(open_store(mended).attributes_of(""), [])
        for leaf in graph.walk(graph.root, ())[0][-4:]:
            self.assertEqual(self.check(disk, [leaf])[1][0], ("nodes", ""))

    def test_the_root_entry_and_its_attributes_are_lost_with_its_node(self):
        disk = Disk([])
        store = new_store(disk)
        store.set_attribute("", "who", "root")
        for number in range(10):
            store.make_group("g" + str(number))
        store.commit()
        graph = Graph(disk)
        leaf = graph.walk(graph.root, ())[0][1]
        mended, losses = self.check(disk, [leaf])
        self.assertEqual(losses, [("nodes", "")])
        mended = open_store(mended)
        self.assertEqual(mended.attributes_of(""), [])
        self.assertTrue(1 < len(mended.paths()) < 11)

    def test_a_parent_whose_entry_is_not_found(self):
        disk = Disk([])
        store = new_store(disk)
        store.make_group("g")
        for number in range(20):
            store.make_group("g/x" + str(number))
        store.commit()
        graph = Graph(disk)
        leaf = graph.walk(graph.root, ())[0][1]
        _, losses = self.check(disk, [leaf])
        self.assertEqual(losses[0], ("nodes", ""))
        self.assertTrue(len(losses) > 10)
        self.assertEqual({word for word, _ in losses[1:]}, {"path"})

    def test_the_root_and_nodes_in_their_order(self):
        graph = Graph(large_disk())
        pointers = [graph.found(())[0][""], graph.walk(graph.root, ())[0][-1]]
        _, losses = self.check(large_disk(), pointers)
        self.assertEqual(losses, [("path", ""), ("nodes", "")])

    def test_nodes_before_chunks_and_paths_by_their_keys(self):
        disk = example_disk()
        graph = Graph(disk)
        store = open_store(disk.copied())
        pointers = graph.found(())[0]
        root = graph.thing(pointers["g/a"]).root
        damaged = [
            graph.walk(root, ())[0][1], store.chunk_pointer("g/a", (9,)), store.chunk_pointer("g/a", (8,)),
            store.chunk_pointer("c/g/z", (0, 0)), pointers["b"], pointers["v"], pointers["s"],
        ]
        _, losses = self.check(disk, damaged)
        self.assertIn(("nodes", "g/a"), losses)
        self.assertEqual([loss[1] for loss in losses], sorted([loss[1] for loss in losses]))
        self.assertEqual(losses[:2], [("path", "b"), ("path", "b/x")])

    def test_a_shared_chunk_is_lost_for_each_array(self):
        disk = example_disk()
        pointer = open_store(disk.copied()).chunk_pointer("g/a", (5,))
        _, losses = self.check(disk, [pointer])
        self.assertEqual(losses, [("chunk", "c/g/a", (5,)), ("chunk", "g/a", (5,))])

    def test_records_that_do_not_hold_what_they_should(self):
        log = Log(Disk([]))
        layout = Layout("u1", (2,), 7, ("runs",))
        index = put(log, NOWHERE, (0,), log.put(3, [2, 0, 5]))
        index = put(log, index, (1,), log.put(3, [2, 2, 6]))
        array = log.put(4, write_object(ArrayObject([], (4,), layout, index)))
        root = put(log, NOWHERE, (), log.put(4, write_object(Group([("n", "x")]))))
        root = put(log, put(log, root, (97,), array), (98,), log.put(4, [9, 0]))
        log.seal(root)
        mended, losses = repaired(log.disk)
        self.assertEqual(losses, [("chunk", "a", (0,)), ("path", "b")])
        store = open_store(mended)
        self.assertEqual((store.paths(), store.attributes_of("")), (["", "a"], [("n", "x")]))
        self.assertEqual(store.read("a", whole((4,))), [7, 7, 6, 6])

    def test_a_parent_that_is_no_group(self):
        log = Log(Disk([]))
        group = log.put(4, write_object(Group([])))
        array = log.put(4, write_object(ArrayObject([], (4,), Layout("u1", (2,), 7, ()), NOWHERE)))
        root = NOWHERE
        for path, pointer in [("", group), ("a", array), ("a/b", group), ("a/b/c", group), ("d", group), ("d/e", array)]:
            root = put(log, root, key_of(path), pointer)
        log.seal(root)
        mended, losses = repaired(log.disk)
        self.assertEqual(losses, [("path", "a/b"), ("path", "a/b/c")])
        self.assertEqual(open_store(mended).paths(), ["", "a", "d", "d/e"])

    def test_further_deeds(self):
        mended, _ = self.check(self.disk, [self.pointers["g/h/a"], self.pointers["x"]])
        store = open_store(mended)
        store.make_array("g/h/a", "u1", (2,), chunks=(2,))
        store.write("g/h/a", whole((2,)), [5, 6])
        store.make_group("x")
        store.commit()
        again = open_store(mended)
        self.assertEqual((again.batch, again.read("g/v", whole((2,)))), (1, [5, 6]))
        self.assertEqual(again.paths(), ["", "g", "g/h", "g/h/a", "g/v", "x"])


class ManyTests(Repairing):
    def test_several_damaged_records(self):
        forms = set()
        for disk in (example_disk(), random_disk(7), random_disk(8), random_disk(9)):
            pointers = live_pointers(disk)
            for seed in range(60):
                choose = random.Random(seed)
                damaged = choose.sample(pointers, choose.randrange(2, min(9, len(pointers))))
                _, losses = self.check(disk, damaged)
                forms |= {(loss[0], loss[1] == "") for loss in losses}
        self.assertEqual(forms, {("path", True), ("path", False), ("nodes", True), ("nodes", False), ("chunk", False)})

    def test_repairing_what_is_repaired_loses_nothing(self):
        disk = example_disk()
        for seed in range(10):
            damaged = random.Random(seed).sample(live_pointers(disk), 5)
            mended, _ = repaired(broken(disk, damaged))
            again, losses = repaired(mended)
            self.assertEqual((losses, bytes_of(again)), ([], bytes_of(mended)))

    def test_all_records_are_damaged(self):
        disk = example_disk()
        mended, losses = self.check(disk, live_pointers(disk))
        self.assertEqual((losses, open_store(mended).paths()), ([("nodes", "")], [""]))


if __name__ == "__main__":
    unittest.main()
