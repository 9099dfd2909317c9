"""Making stores and opening them (points 22, 36 and 37)."""

import unittest

from tessera.disks import Disk
from tessera.errors import NotAStore
from tessera.logs import Log
from tessera.objects import Group, read_object, write_object
from tessera.opening import new_store, open_store
from tessera.records import NOWHERE, make_record, read_record
from tessera.seals import make_seal, seal_at
from tessera.trees import put

from tests.tools import error_of, node_at, outcome, snapshot


def bytes_of(disk):
    return disk.part(0, len(disk))


def filled_disk():
    """The disk of a store with two batches."""
    disk = Disk([])
    store = new_store(disk)
    store.make_array("a", "u1", (4,), chunks=(2,))
    store.write("a", ("box", ((1, 1, 2),)), [5, 6])
    store.commit()
    return disk


class NewTests(unittest.TestCase):
    def test_a_new_store(self):
        disk = Disk([])
        store = new_store(disk)
        self.assertEqual(store.batch, 0)
        self.assertEqual(snapshot(store), [("", ["group", [], []])])
        batch, root = seal_at(disk, len(disk) - 28)
        self.assertEqual(batch, 0)
        self.assertEqual(disk.part(len(disk) - 56, 28), make_seal(0, root))
        kind, pairs = node_at(disk, root)
        self.assertEqual((kind, [key for key, _ in pairs]), (1, [()]))
        self.assertEqual(read_record(disk, 4, pairs[0][1]), write_object(Group([])))

    def test_the_bytes_of_a_new_store(self):
        disk = Disk([])
        new_store(disk)
        group = make_record(4, [1, 0])
        leaf = make_record(1, [1, 0, 0, 5])
        self.assertEqual(bytes_of(disk), group + leaf + make_seal(0, (5, 7)) * 2)

    def test_the_directory(self):
        disk = filled_disk()
        _, root = seal_at(disk, len(disk) - 28)
        _, pairs = node_at(disk, root)
        self.assertEqual([key for key, _ in pairs], [(), (97,)])
        things = [read_object(read_record(disk, 4, pointer)) for _, pointer in pairs]
        self.assertEqual([thing.__class__.__name__ for thing in things], ["Group", "ArrayObject"])
        store = open_store(disk)
        _, pairs = node_at(disk, things[1].root)
        self.assertEqual([pointer for _, pointer in pairs], [store.chunk_pointer("a", (0,)), store.chunk_pointer("a", (1,))])


class OpenTests(unittest.TestCase):
    def test_opening_again(self):
        disk = filled_disk()
        before = bytes_of(disk)
        store = open_store(disk)
        self.assertEqual((store.batch, store.paths()), (1, ["", "a"]))
        self.assertEqual(store.read("a", ("box", ((0, 1, 4),))), [0, 5, 6, 0])
        self.assertEqual(bytes_of(disk), before)

    def test_what_is_not_a_store(self):
        whole = bytes_of(filled_disk())
        for values in ([], [1, 2, 3], make_seal(0, (0, 7))[:-1], [255] * 40, whole[:12], whole[:39], whole[1:20]):
            disk = Disk(values)
            self.assertEqual(error_of(lambda: open_store(disk)), (NotAStore, {}))
            self.assertEqual(bytes_of(disk), list(values))

    def test_files_that_are_cut_behind_the_last_whole_seal(self):
        whole = filled_disk()
        for count in range(len(whole) - 28, len(whole) + 1):
            disk = Disk(bytes_of(whole)[:count])
            self.assertEqual(open_store(disk).batch, 1)
            self.assertEqual(bytes_of(disk), bytes_of(whole))

    def test_files_that_are_grown_behind_the_last_whole_seal(self):
        whole = bytes_of(filled_disk())
        for more in ([7], [3, 1, 4], make_record(4, [1, 0]), make_seal(2, (0, 7))[:-1], [255, 254] * 30):
            disk = Disk(whole + more)
            store = open_store(disk)
            self.assertEqual((store.batch, bytes_of(disk)), (1, whole))
            store.make_group("new")
            store.commit()
            self.assertEqual(snapshot(open_store(disk)), snapshot(store))

    def test_one_copy_of_the_last_seal_damaged(self):
        whole = filled_disk()
        for copy in (28, 56):
            for at in range(28):
                disk = whole.copied()
                disk.change(len(whole) - copy + at, 7)
                if bytes_of(disk) == bytes_of(whole):
                    continue
                store = open_store(disk)
                self.assertEqual((store.batch, store.paths()), (1, ["", "a"]))
                self.assertEqual(disk.part(len(disk) - 56, 56), whole.part(len(whole) - 56, 56))
                store.make_group("new")
                store.commit()
                self.assertEqual(open_store(disk).paths(), ["", "a", "new"])

    def test_records_that_are_no_objects(self):
        group = write_object(Group([]))
        for kind, content in [(4, [1]), (4, [9, 0]), (4, group + [0]), (4, []), (3, group)]:
            log = Log(Disk([]))
            pointer = log.put(kind, content)
            log.seal(put(log, NOWHERE, (), pointer))
            store = open_store(log.disk)
            self.assertEqual(store.paths(), [""])
            for ask in (store.kind_at, store.names_in, store.attributes_of):
                self.assertEqual(outcome(lambda: ask("")), ("damaged", pointer))
            self.assertEqual(outcome(lambda: store.make_group("a")), ("damaged", pointer))

    def test_two_stores_on_copies_do_not_disturb_each_other(self):
        disk = filled_disk()
        copy = disk.copied()
        first, second = open_store(disk), open_store(copy)
        first.make_group("x")
        first.commit()
        second.remove("a")
        second.commit()
        self.assertEqual((first.paths(), second.paths()), (["", "a", "x"], [""]))
        self.assertEqual((open_store(disk).paths(), open_store(copy).paths()), (["", "a", "x"], [""]))


if __name__ == "__main__":
    unittest.main()
