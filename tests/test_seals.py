"""Seals (points 19 to 22)."""

import unittest

from tessera.disks import Disk
from tessera.errors import NotAStore
from tessera.numbers import check_of
from tessera.records import make_record
from tessera.seals import last_seal, make_ready, make_seal, seal_at

GREATEST = 250 ** 8 - 1


def all_bytes(disk):
    return disk.part(0, len(disk))


def batch_bytes(batch, start):
    """A record and the two copies of the seal of a batch that begins at `start`."""
    record = make_record(4, [batch, 7, 249])
    return record + make_seal(batch, (start, len(record))) * 2


def two_batches():
    first = batch_bytes(0, 0)
    return first + batch_bytes(1, len(first))


LENGTH = len(two_batches()) // 2
ROOTS = [(0, 6), (LENGTH, 6)]


class MakeSealTests(unittest.TestCase):
    def test_example(self):
        due = [255, 0, 0, 0, 0, 0, 0, 0, 1, 0, 0, 0, 0, 0, 0, 1, 50, 0, 0, 0, 0, 0, 0, 0, 12, 0, 64, 254]
        self.assertEqual(make_seal(1, (300, 12)), due)

    def test_form(self):
        for batch in (0, 1, 249, 250, 62499, 62500, GREATEST):
            for root in ((0, 0), (249, 250), (GREATEST, GREATEST), (12345678901234, 5)):
                seal = make_seal(batch, root)
                self.assertEqual(len(seal), 28)
                self.assertEqual((seal[0], seal[-1]), (255, 254))
                self.assertLessEqual(max(seal[1:-1]), 249)
                self.assertEqual(seal[25:27], check_of(seal[1:25]))
                for number, digits in zip((batch,) + root, (seal[1:9], seal[9:17], seal[17:25])):
                    told = sum(digit * 250 ** (7 - at) for at, digit in enumerate(digits))
                    self.assertEqual(told, number)

    def test_greatest_numbers(self):
        # 24 bytes of 249 have the sum 5976.
        self.assertEqual(make_seal(GREATEST, (GREATEST, GREATEST)), [255] + [249] * 24 + [23, 226, 254])


class SealAtTests(unittest.TestCase):
    def test_around_the_address(self):
        for batch, root in ((0, (0, 0)), (1, (300, 12)), (GREATEST, (GREATEST, GREATEST))):
            for before in ([], [255], [0, 1, 2], [254] * 30):
                seal = make_seal(batch, root)
                disk = Disk(before + seal + [0, 255])
                for address in range(-40, len(disk) + 40):
                    due = (batch, root) if address == len(before) else None
                    self.assertEqual(seal_at(disk, address), due)
                self.assertEqual(all_bytes(disk), before + seal + [0, 255])

    def test_two_copies(self):
        disk = Disk(make_seal(5, (300, 12)) * 2)
        found = [address for address in range(-60, 60) if seal_at(disk, address) is not None]
        self.assertEqual(found, [0, 28])

    def test_each_byte_changed(self):
        for batch, root in ((1, (300, 12)), (GREATEST, (GREATEST, GREATEST))):
            seal = make_seal(batch, root)
            disk = Disk([7] + seal)
            for at in range(28):
                for byte in range(256):
                    if byte != seal[at]:
                        disk.change(1 + at, byte)
                        self.assertIsNone(seal_at(disk, 1))
                disk.change(1 + at, seal[at])
            self.assertEqual(seal_at(disk, 1), (batch, root))

    def test_bytes_above_249_with_a_right_check(self):
        for byte in range(250, 256):
            for place in range(24):
                told = [0] * place + [byte] + [0] * (23 - place)
                self.assertIsNone(seal_at(Disk([255] + told + check_of(told) + [254]), 0))

    def test_cut_seals(self):
        seal = make_seal(1, (300, 12))
        for length in range(28):
            self.assertIsNone(seal_at(Disk(seal[:length]), 0))


class LastSealTests(unittest.TestCase):
    def check_not_a_store(self, values):
        disk = Disk(values)
        with self.assertRaises(NotAStore):
            last_seal(disk)
        with self.assertRaises(NotAStore):
            make_ready(disk)
        self.assertEqual(all_bytes(disk), list(values))

    def test_whole_files(self):
        disk = Disk(two_batches())
        self.assertEqual(last_seal(disk), len(disk) - 28)
        self.assertEqual(make_ready(disk), (1, ROOTS[1]))
        self.assertEqual(all_bytes(disk), two_batches())

    def test_files_without_a_seal(self):
        self.check_not_a_store([])
        self.check_not_a_store([255])
        self.check_not_a_store([255] * 60)
        self.check_not_a_store(make_record(4, [1, 2, 3]) * 9)
        self.check_not_a_store(make_seal(0, (1, 1))[1:] + [0])

    def test_files_cut_behind_every_byte(self):
        values = two_batches()
        for length in range(len(values) + 1):
            if length < LENGTH - 28:
                self.check_not_a_store(values[:length])
                continue
            batch = 1 if length >= 2 * LENGTH - 28 else 0
            end = (batch + 1) * LENGTH
            disk = Disk(values[:length])
            self.assertEqual(last_seal(disk), end - 28 if length >= end else end - 56)
            self.assertEqual(make_ready(disk), (batch, ROOTS[batch]))
            self.assertEqual(all_bytes(disk), values[:end])
            self.check_stays(disk)

    def check_stays(self, disk):
        """A file that is ready stays as it is, and tells the same again."""
        before = all_bytes(disk)
        told = seal_at(disk, last_seal(disk))
        self.assertEqual(make_ready(disk), told)
        self.assertEqual(all_bytes(disk), before)
        self.assertEqual(before[-28:], before[-56:-28])

    def test_any_one_byte_changed(self):
        values = two_batches()
        for at in range(len(values)):
            for byte in sorted({0, 1, 249, 250, 254, 255, (values[at] + 1) % 256} - {values[at]}):
                disk = Disk(values)
                disk.change(at, byte)
                changed = all_bytes(disk)
                in_first = len(values) - 56 <= at < len(values) - 28
                in_second = len(values) - 28 <= at
                self.assertEqual(last_seal(disk), len(values) - (56 if in_second else 28))
                self.assertEqual(make_ready(disk), (1, ROOTS[1]))
                if in_second:
                    self.assertEqual(all_bytes(disk), values)
                elif in_first:
                    self.assertEqual(all_bytes(disk), changed + values[-28:])
                else:
                    self.assertEqual(all_bytes(disk), changed)
                self.check_stays(disk)

    def test_bytes_appended(self):
        values = two_batches()
        more = make_record(3, [1, 2]) + make_seal(2, (9, 9))
        for length in range(1, len(more)):
            disk = Disk(values + more[:length])
            self.assertEqual(last_seal(disk), len(values) - 28)
            self.assertEqual(make_ready(disk), (1, ROOTS[1]))
            self.assertEqual(all_bytes(disk), values)
        disk = Disk(values + more)
        self.assertEqual(make_ready(disk), (2, (9, 9)))
        self.assertEqual(all_bytes(disk), values + more + make_seal(2, (9, 9)))
        self.check_stays(disk)

    def test_a_single_seal_near_the_beginning(self):
        seal = make_seal(0, (0, 0))
        for before in range(60):
            disk = Disk([3] * before + seal)
            self.assertEqual(make_ready(disk), (0, (0, 0)))
            self.assertEqual(all_bytes(disk), [3] * before + seal * 2)
            self.check_stays(disk)

    def test_a_single_seal_whose_bytes_before_nearly_repeat_it(self):
        # A part from a negative address would be taken from the end of a list.
        seal = make_seal(3, (300, 12))
        for kept in range(1, 28):
            disk = Disk(seal[kept:] + seal)
            self.assertEqual(make_ready(disk), (3, (300, 12)))
            self.assertEqual(all_bytes(disk), seal[kept:] + seal * 2)

    def test_the_greatest_address_decides_and_not_the_greatest_batch(self):
        values = make_seal(7, (5, 5)) * 2 + make_seal(3, (6, 6)) * 2
        disk = Disk(values)
        self.assertEqual(last_seal(disk), 84)
        self.assertEqual(make_ready(disk), (3, (6, 6)))

    def test_two_whole_seals_that_differ(self):
        disk = Disk(make_seal(1, (5, 5)) + make_seal(1, (6, 6)))
        self.assertEqual(make_ready(disk), (1, (6, 6)))
        self.assertEqual(all_bytes(disk), make_seal(1, (5, 5)) + make_seal(1, (6, 6)) * 2)


if __name__ == "__main__":
    unittest.main()
