"""Logs (point 23)."""

import unittest

from tessera.disks import Disk
from tessera.errors import Damaged
from tessera.logs import Log
from tessera.records import make_record
from tessera.seals import make_seal

from tests.tools import pointer_of


class LogTests(unittest.TestCase):
    def check_damaged(self, log, kind, pointer):
        with self.assertRaises(Damaged) as caught:
            log.fetch(kind, pointer)
        self.assertEqual(pointer_of(caught.exception), pointer)

    def test_pointers_in_an_empty_and_a_grown_batch(self):
        log = Log(Disk([]))
        self.assertEqual(log.put(3, [7, 8]), (0, 5))
        self.assertEqual(log.put(1, []), (5, 3))
        self.assertEqual(log.put(4, [1] * 300), (8, 303))
        self.assertEqual(log.put(4, []), (311, 3))

    def test_pointers_after_seals(self):
        disk = Disk([])
        log = Log(disk)
        log.put(3, [1])
        log.seal((0, 4))
        self.assertEqual(log.put(3, [2]), (60, 4))
        self.assertEqual(log.put(3, [2, 3]), (64, 5))
        log.seal((60, 4))
        log.seal((60, 4))
        self.assertEqual(log.put(3, [4]), (60 + 9 + 56 + 56, 4))
        self.assertEqual(len(disk), 60 + 9 + 56 + 56)

    def test_batch_and_pending_at_each_step(self):
        disk = Disk([])
        log = Log(disk)
        self.assertEqual((log.batch, log.pending), (-1, 0))
        log.put(3, [7])
        self.assertEqual((log.batch, log.pending), (-1, 4))
        log.put(3, [])
        self.assertEqual((log.batch, log.pending), (-1, 7))
        self.assertIsNone(log.seal((0, 4)))
        self.assertEqual((log.batch, log.pending), (0, 0))
        log.put(3, [])
        self.assertEqual((log.batch, log.pending), (0, 3))
        self.assertIsNone(log.drop())
        self.assertEqual((log.batch, log.pending), (0, 0))
        log.seal((0, 4))
        self.assertEqual((log.batch, log.pending), (1, 0))
        again = Log(disk)
        self.assertEqual((again.batch, again.pending), (1, 0))

    def test_a_log_goes_on_with_the_number_of_the_last_seal(self):
        disk = Disk(make_record(1, [5]) + make_seal(41, (0, 4)) * 2)
        log = Log(disk)
        self.assertEqual(log.batch, 41)
        log.seal((0, 4))
        self.assertEqual(disk.part(60, 99), make_seal(42, (0, 4)) * 2)

    def test_sealing_appends_the_batch_and_two_seals(self):
        disk = Disk([])
        log = Log(disk)
        self.assertIs(log.disk, disk)
        log.put(3, [7, 8])
        log.put(2, [9])
        self.assertEqual(len(disk), 0)
        log.seal((5, 4))
        due = make_record(3, [7, 8]) + make_record(2, [9]) + make_seal(0, (5, 4)) * 2
        self.assertEqual(disk.part(0, 10 ** 4), due)
        log.put(1, [])
        log.seal((0, 0))
        due = due + make_record(1, []) + make_seal(1, (0, 0)) * 2
        self.assertEqual(disk.part(0, 10 ** 4), due)

    def test_sealing_an_empty_batch(self):
        disk = Disk([])
        log = Log(disk)
        log.seal((0, 0))
        log.seal((3, 4))
        self.assertEqual(disk.part(0, 999), make_seal(0, (0, 0)) * 2 + make_seal(1, (3, 4)) * 2)

    def test_records_of_the_batch_and_of_the_file(self):
        log = Log(Disk([]))
        contents = [[], [7, 8], [249] * 40]
        pointers = [log.put(3, content) for content in contents]
        for _ in range(3):
            self.assertEqual([log.fetch(3, pointer) for pointer in pointers], contents)
            log.seal((0, 0))
            contents.append([len(contents)])
            pointers.append(log.put(3, contents[-1]))
        self.assertEqual([log.fetch(3, pointer) for pointer in pointers], contents)

    def test_wrong_pointers_and_kinds(self):
        for sealed in (False, True):
            log = Log(Disk([]))
            log.put(1, [4, 5, 6])
            address, length = log.put(3, [7, 8])
            if sealed:
                log.seal((0, 0))
            for kind in (1, 2, 4):
                self.check_damaged(log, kind, (address, length))
            for pointer in [(address, 4), (address, 6), (address + 1, 5), (address - 1, 5), (address, 3), (address, 0)]:
                self.check_damaged(log, 3, pointer)
            self.check_damaged(log, 3, (address, 10 ** 9))

    def test_addresses_behind_the_end(self):
        log = Log(Disk([]))
        for _ in range(2):
            end = len(log.disk) + log.pending
            for pointer in [(end, 5), (end + 1, 3), (end + 10 ** 12, 3), (end, 3)]:
                self.check_damaged(log, 3, pointer)
            log.put(3, [7])
            log.seal((0, 0))
            log.put(3, [7])

    def test_across_the_end_of_the_file(self):
        log = Log(Disk([]))
        log.put(3, [7])
        log.seal((0, 0))
        log.put(3, [7])
        end = len(log.disk)
        for back in (1, 2, 28, 56, 60):
            for length in range(back + 1, back + 5):
                self.check_damaged(log, 3, (end - back, length))

    def test_the_file_ends_before_the_record_does(self):
        # Only a damaged file can end like this, but then the batch does not go on
        # with the record.
        disk = Disk(make_seal(0, (0, 0)) * 2)
        log = Log(disk)
        record = make_record(3, [0, 2, 1])
        self.assertEqual(record, [3, 0, 2, 1, 0, 6])
        disk.change(55, 3)
        log.put(3, [])
        self.check_damaged(log, 3, (55, 4))

    def test_dropping_forgets_the_batch(self):
        disk = Disk([])
        log = Log(disk)
        kept = log.put(3, [1])
        log.seal(kept)
        gone = log.put(3, [2])
        log.drop()
        self.check_damaged(log, 3, gone)
        self.assertEqual(log.fetch(3, kept), [1])
        self.assertEqual(log.put(3, [5]), gone)
        self.assertEqual(log.fetch(3, gone), [5])
        log.drop()
        log.drop()
        log.seal(kept)
        self.assertEqual(disk.part(60, 999), make_seal(1, kept) * 2)

    def test_keeping_the_beginning_of_the_batch(self):
        log = Log(Disk([]))
        first = log.put(3, [1])
        count = log.pending
        second = log.put(3, [2])
        log.keep(count)
        self.assertEqual((log.pending, log.fetch(3, first)), (count, [1]))
        self.check_damaged(log, 3, second)

    def test_lists_are_not_shared(self):
        log = Log(Disk([]))
        content = [7, 8]
        pointer = log.put(3, content)
        self.assertEqual(content, [7, 8])
        content[0] = 9
        for _ in range(2):
            found = log.fetch(3, pointer)
            self.assertEqual(found, [7, 8])
            found[1] = 9
            self.assertEqual(log.fetch(3, pointer), [7, 8])
            log.seal(pointer)

    def test_the_batch_can_be_changed_after_sealing_without_changing_the_file(self):
        disk = Disk([])
        log = Log(disk)
        log.put(3, [1])
        log.seal((0, 4))
        before = disk.part(0, 999)
        log.put(3, [2])
        log.drop()
        self.assertEqual(disk.part(0, 999), before)

    def test_a_changed_byte_of_the_file_is_told(self):
        disk = Disk([])
        log = Log(disk)
        pointer = log.put(3, [7, 8])
        log.seal(pointer)
        for at in range(5):
            before = disk.part(at, 1)[0]
            disk.change(at, (before + 1) % 250)
            self.check_damaged(log, 3, pointer)
            disk.change(at, before)
        self.assertEqual(log.fetch(3, pointer), [7, 8])


if __name__ == "__main__":
    unittest.main()
