"""Inspecting files and compacting them (points 47 and 48)."""

import random
import unittest

from tessera.disks import Disk
from tessera.errors import Damaged, NotAStore
from tessera.inspecting import compacted, inspect, is_sound, live_pointers
from tessera.logs import Log
from tessera.layouts import Layout
from tessera.objects import ArrayObject, Group, write_object
from tessera.opening import new_store, open_store
from tessera.records import NOWHERE
from tessera.seals import seal_at
from tessera.selections import whole
from tessera.trees import put, tree_depth

from tests.graphs import Graph
from tests.test_cuts import batches_of_many_sorts
from tests.test_damage import example_disk
from tests.test_reckoning import Deeds
from tests.tools import damaged_disk, error_of, node_at, nodes_of, pointer_of, snapshot

FUNCTIONS = (inspect, live_pointers, is_sound, compacted)


def bytes_of(disk):
    return disk.part(0, len(disk))


def random_disk(seed, count=120):
    """The disk of a store after many mixed deeds, without a present batch."""
    deeds = Deeds(seed)
    disk = Disk([])
    store = new_store(disk)
    for _ in range(count):
        name, arguments, named = deeds.next()
        error_of(lambda: getattr(store, name)(*arguments, **named))
        error_of(lambda: getattr(deeds.plain, name)(*arguments, **named))
    store.commit()
    return disk


def large_disk():
    """The disk of a store with 100 paths and an array of 90 chunks, some of them rewritten and removed."""
    disk = Disk([])
    store = new_store(disk)
    for number in range(97):
        store.make_group("g" + str(number))
    store.make_array("g5/a", "u2", (30, 30), chunks=(3, 3), filters=("delta",))
    store.write("g5/a", whole((30, 30)), list(range(900)))
    store.resize("g5/a", (27, 30))
    store.duplicate("g5", "g6/b")
    store.commit()
    store.write("g6/b/a", ("box", ((4, 5, 3), (1, 7, 2))), [1, 2, 3, 4, 5, 6])
    store.remove("g90")
    store.commit()
    return disk


def disks():
    return [example_disk(), batches_of_many_sorts().disk, large_disk()] + [random_disk(seed) for seed in (1, 2, 3)]


class ExampleTests(unittest.TestCase):
    def test_the_example(self):
        disk = Disk([])
        new_store(disk)
        self.assertEqual(inspect(disk), [])


class SoundTests(unittest.TestCase):
    def test_the_records_that_are_visited(self):
        for disk in disks():
            pointers = live_pointers(disk)
            self.assertEqual(pointers, sorted(Graph(disk).visited()))
            self.assertEqual(pointers, sorted(set(pointers)))

    def test_records_of_the_four_kinds_that_do_not_overlap(self):
        for disk in disks():
            pointers = live_pointers(disk)
            for (address, length), (behind, _) in zip(pointers, pointers[1:] + [(len(disk), 0)]):
                self.assertLessEqual(address + length, behind)
                self.assertIn(disk.part(address, 1)[0], (1, 2, 3, 4))
        kinds = [example_disk().part(address, 1)[0] for address, _ in live_pointers(example_disk())]
        self.assertEqual(set(kinds), {1, 2, 3, 4})

    def test_shared_records_are_listed_once(self):
        disk = Disk([])
        store = new_store(disk)
        store.make_array("a", "u1", (6,), chunks=(2,))
        store.write("a", whole((6,)), [1, 2, 3, 4, 5, 6])
        store.duplicate("a", "b")
        store.duplicate("a", "c")
        store.write("c", ("points", ((0,),)), [9])
        store.commit()
        pointers = live_pointers(disk)
        for path in "abc":
            for grid in range(3):
                self.assertEqual(pointers.count(store.chunk_pointer(path, (grid,))), 1)
        # Two objects for the three paths, four chunks, two indexes, the root group and the directory.
        self.assertEqual(len(pointers), 2 + 4 + 2 + 1 + 1)

    def test_every_file_that_a_store_leaves(self):
        history = batches_of_many_sorts()
        for count in range(history.kept[0][0], len(history.disk) + 1):
            disk = Disk(history.disk.part(0, count))
            self.assertEqual((inspect(disk), is_sound(disk)), ([], True))
        for disk in disks():
            self.assertEqual((inspect(disk), is_sound(disk)), ([], True))

    def test_the_present_batch_is_not_looked_at(self):
        disk = example_disk()
        due = live_pointers(disk)
        store = open_store(disk)
        store.remove("g")
        self.assertEqual(live_pointers(disk), due)

    def test_the_last_whole_seal_decides(self):
        history = batches_of_many_sorts()
        for end, batch, _ in history.kept:
            disk = Disk(history.disk.part(0, end))
            self.assertEqual(live_pointers(disk), sorted(Graph(disk).visited()))
            disk.append([3, 1, 4, 255, 0])
            before = bytes_of(disk)
            self.assertEqual(live_pointers(disk), sorted(Graph(disk).visited()))
            self.assertEqual((is_sound(disk), bytes_of(disk)), (True, before))


class DamageTests(unittest.TestCase):
    def test_each_changed_byte(self):
        whole_disk = batches_of_many_sorts().disk
        graph = Graph(whole_disk)
        pointers = live_pointers(whole_disk)
        for at in range(len(whole_disk)):
            disk = whole_disk.copied()
            byte = 254 if at % 5 == 0 else (disk.part(at, 1)[0] + 1) % 256
            if disk.part(at, 1) == [byte]:
                continue
            disk.change(at, byte)
            due = [pointer for pointer in pointers if pointer[0] <= at < sum(pointer)]
            self.assertEqual(inspect(disk), due)
            self.assertEqual(live_pointers(disk), sorted(graph.visited(due)))
            self.assertEqual(is_sound(disk), due == [])
            self.check_compacting(disk, due)

    def check_compacting(self, disk, due):
        error = (Damaged, {"address": due[0][0], "length": due[0][1]}) if due else None
        self.assertEqual(error_of(lambda: compacted(disk)), error)

    def test_each_damaged_record(self):
        for whole_disk in (example_disk(), large_disk()):
            graph = Graph(whole_disk)
            for pointer in live_pointers(whole_disk)[::3]:
                disk = damaged_disk(whole_disk, pointer, pointer[1] - 1)
                self.assertEqual(inspect(disk), [pointer])
                self.assertEqual(live_pointers(disk), sorted(graph.visited([pointer])))

    def test_several_damaged_records(self):
        whole_disk = example_disk()
        graph, pointers = Graph(whole_disk), live_pointers(whole_disk)
        for seed in range(150):
            choose = random.Random(seed)
            damaged = choose.sample(pointers, choose.randrange(2, 9))
            disk = whole_disk.copied()
            for pointer in damaged:
                disk = damaged_disk(disk, pointer, choose.randrange(pointer[1]))
            before = bytes_of(disk)
            visited = graph.visited(damaged)
            due = sorted(visited & set(damaged))
            self.assertEqual((inspect(disk), live_pointers(disk)), (due, sorted(visited)))
            self.check_compacting(disk, due)
            self.assertEqual(bytes_of(disk), before)

    def test_below_a_damaged_record_nothing_is_visited(self):
        disk = example_disk()
        root = Graph(disk).root
        self.assertEqual(live_pointers(damaged_disk(disk, root)), [root])
        store = open_store(disk.copied())
        index_root = Graph(disk).thing(Graph(disk).found(())[0]["g/z"]).root
        chunk = store.chunk_pointer("g/z", (0, 0))
        damaged = damaged_disk(disk, index_root)
        self.assertIn(index_root, live_pointers(damaged))
        self.assertNotIn(chunk, live_pointers(damaged))

    def test_contents_that_are_damaged(self):
        # Whole records that do not hold what they should hold (points 30, 45).
        layout = Layout("u1", (2,), 0, ("runs",))
        for kind, content, is_chunk in [
            (4, [1], False), (4, [9, 0], False), (3, [1, 0], False), (3, [2, 0, 5], True), (3, [2, 1, 5], True),
        ]:
            log = Log(Disk([]))
            pointer = log.put(kind, content)
            if is_chunk:
                index = put(log, NOWHERE, (0,), pointer)
                array = log.put(4, write_object(ArrayObject([], (2,), layout, index)))
                directory = put(log, NOWHERE, (), log.put(4, write_object(Group([]))))
                log.seal(put(log, directory, (97,), array))
            else:
                log.seal(put(log, NOWHERE, (), pointer))
            self.assertEqual(inspect(log.disk), [pointer])

    def test_nodes_that_cannot_be_read(self):
        log = Log(Disk([]))
        pointer = log.put(1, [9])
        log.seal(pointer)
        self.assertEqual((inspect(log.disk), live_pointers(log.disk)), ([pointer], [pointer]))

    def test_what_is_no_store(self):
        seal = batches_of_many_sorts().disk.part(0, 39)
        for values in ([], [1, 2, 3], seal, [255] * 60):
            for ask in FUNCTIONS:
                disk = Disk(values)
                self.assertEqual(error_of(lambda: ask(disk)), (NotAStore, {}))
                self.assertEqual(bytes_of(disk), values)


class CompactingTests(unittest.TestCase):
    def test_the_same_store_in_one_batch(self):
        for disk in disks():
            before = bytes_of(disk)
            small = compacted(disk)
            self.assertEqual(bytes_of(disk), before)
            store = open_store(small)
            self.assertEqual(store.batch, 0)
            self.assertEqual(snapshot(store), snapshot(open_store(disk)))
            self.check_chunks(store, open_store(disk))

    def check_chunks(self, store, other):
        """The same chunks have records."""
        for path in store.paths():
            if store.kind_at(path) == "array" and len(store.shape_of(path)) == 1:
                for grid in range(20):
                    pointers = [each.chunk_pointer(path, (grid,)) for each in (store, other)]
                    self.assertEqual(pointers[0] is None, pointers[1] is None)

    def test_it_holds_nothing_else(self):
        for disk in disks():
            small = compacted(disk)
            pointers = live_pointers(small)
            self.assertEqual(sum(length for _, length in pointers) + 56, len(small))
            self.assertEqual(pointers[0][0], 0)
            self.assertTrue(is_sound(small))
            self.assertEqual([seal_at(small, len(small) - back)[0] for back in (28, 56)], [0, 0])
            self.assertEqual(len([at for at in range(len(small)) if seal_at(small, at) is not None]), 2)

    def test_trees_as_point_24_says(self):
        small = compacted(large_disk())
        graph = Graph(small)
        self.check_tree(small, graph.root, 100)
        root = graph.thing(graph.found(())[0]["g5/a"]).root
        self.check_tree(small, root, 90)

    def check_tree(self, disk, root, count):
        depths, keys = [], []

        def visit(pointer, depth):
            kind, pairs = node_at(disk, pointer)
            self.assertTrue(1 <= len(pairs) <= 8)
            self.assertEqual([key for key, _ in pairs], sorted({key for key, _ in pairs}))
            if kind == 1:
                depths.append(depth)
                keys.extend([key for key, _ in pairs])
                return keys[-len(pairs)]
            leasts = [visit(below, depth + 1) for _, below in pairs]
            self.assertEqual([key for key, _ in pairs], leasts)
            return leasts[0]

        visit(root, 1)
        self.assertEqual(len(set(depths)), 1)
        self.assertEqual(keys, sorted(set(keys)))
        self.assertEqual(len(keys), count)
        self.assertEqual(tree_depth(Log(disk), root), depths[0])
        self.assertEqual(len(nodes_of(disk, root)), len({pointer for pointer, _, _ in nodes_of(disk, root)}))

    def test_further_deeds_and_commits(self):
        for disk, array, gone in ((large_disk(), "g5/a", "g6"), (example_disk(), "g/a", "b")):
            small = compacted(disk)
            stores = [open_store(each) for each in (small, disk)]
            for store in stores:
                store.make_group("new")
                shape = store.shape_of(array)
                store.write(array, ("points", (tuple([size - 1 for size in shape]),)), [7])
                store.resize(array, tuple([size - 3 for size in shape]))
                store.remove(gone)
                store.duplicate(array.split("/")[0], "new/copy")
                store.commit()
                store.move("new", "newer")
                store.commit()
            self.assertEqual(stores[0].batch, 2)
            due = snapshot(stores[1])
            self.assertEqual(snapshot(stores[0]), due)
            self.assertEqual(snapshot(open_store(small)), due)
            self.assertTrue(is_sound(small))

    def test_many_mixed_deeds_after_compacting(self):
        for seed in (51, 52):
            deeds = Deeds(seed)
            disk = Disk([])
            store = new_store(disk)
            for number in range(160):
                name, arguments, named = deeds.next()
                error = error_of(lambda: getattr(deeds.plain, name)(*arguments, **named))
                self.assertEqual(error_of(lambda: getattr(store, name)(*arguments, **named)), error)
                if number % 40 == 20:
                    store.commit()
                    deeds.plain.commit()
                    disk = compacted(disk)
                    store = open_store(disk)
                self.assertEqual(snapshot(store), snapshot(deeds.plain))

    def test_compacting_again_gives_the_same(self):
        for disk in disks():
            small = compacted(disk)
            self.assertEqual(bytes_of(compacted(small)), bytes_of(small))

    def test_a_new_store(self):
        disk = Disk([])
        new_store(disk)
        self.assertEqual(bytes_of(compacted(disk)), bytes_of(disk))

    def test_what_was_removed_is_gone(self):
        disk = Disk([])
        store = new_store(disk)
        store.make_array("a", "u1", (4000,), chunks=(4000,))
        store.write("a", whole((4000,)), [77] * 4000)
        store.commit()
        store.remove("a")
        store.commit()
        self.assertTrue(len(disk) > 4000)
        self.assertEqual(len(compacted(disk)), 5 + 7 + 56)

    def test_an_unused_damaged_record_does_not_matter(self):
        disk = example_disk()
        dead = next(at for at in range(len(disk)) if not any(a <= at < a + n for a, n in live_pointers(disk)))
        due = snapshot(open_store(disk.copied()))
        disk.change(dead, (disk.part(dead, 1)[0] + 1) % 250)
        self.assertEqual(snapshot(open_store(compacted(disk))), due)

    def test_the_first_damaged_record_is_named(self):
        disk = example_disk()
        pointers = live_pointers(disk)
        broken = damaged_disk(damaged_disk(disk, pointers[-3]), pointers[4])
        before = bytes_of(broken)
        with self.assertRaises(Damaged) as caught:
            compacted(broken)
        self.assertEqual(pointer_of(caught.exception), inspect(broken)[0])
        self.assertEqual(bytes_of(broken), before)


if __name__ == "__main__":
    unittest.main()
