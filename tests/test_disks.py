"""Disks (point 16)."""

import unittest

from tessera.disks import Disk


class DiskTests(unittest.TestCase):
    def test_length(self):
        self.assertEqual(len(Disk([])), 0)
        self.assertEqual(len(Disk([1, 2, 3])), 3)
        self.assertEqual(len(Disk((4, 5))), 2)

    def test_parts(self):
        disk = Disk([10, 11, 12, 13, 14])
        self.assertEqual(disk.part(0, 5), [10, 11, 12, 13, 14])
        self.assertEqual(disk.part(1, 3), [11, 12, 13])
        self.assertEqual(disk.part(2, 0), [])
        self.assertEqual(disk.part(4, 1), [14])

    def test_parts_across_and_behind_the_end(self):
        disk = Disk([10, 11, 12])
        self.assertEqual(disk.part(1, 9), [11, 12])
        self.assertEqual(disk.part(3, 1), [])
        self.assertEqual(disk.part(8, 2), [])
        self.assertEqual(disk.part(250 ** 8, 250 ** 8), [])
        self.assertEqual(Disk([]).part(0, 4), [])

    def test_append(self):
        disk = Disk([1])
        self.assertIsNone(disk.append([2, 255]))
        self.assertEqual(disk.part(0, 9), [1, 2, 255])
        disk.append([])
        self.assertEqual(len(disk), 3)

    def test_cut(self):
        disk = Disk([1, 2, 3, 4])
        self.assertIsNone(disk.cut(4))
        self.assertEqual(disk.part(0, 9), [1, 2, 3, 4])
        disk.cut(2)
        self.assertEqual(disk.part(0, 9), [1, 2])
        disk.cut(0)
        self.assertEqual(len(disk), 0)

    def test_change(self):
        disk = Disk([1, 2, 3])
        self.assertIsNone(disk.change(1, 255))
        self.assertEqual(disk.part(0, 9), [1, 255, 3])
        disk.change(0, 0)
        disk.change(2, 9)
        self.assertEqual(disk.part(0, 9), [0, 255, 9])

    def test_passed_lists_are_not_shared(self):
        first = [1, 2]
        more = [3, 4]
        disk = Disk(first)
        disk.append(more)
        first[0] = 9
        more[0] = 9
        self.assertEqual(disk.part(0, 9), [1, 2, 3, 4])
        disk.change(0, 8)
        disk.cut(1)
        self.assertEqual(first, [9, 2])
        self.assertEqual(more, [9, 4])

    def test_returned_lists_are_not_shared(self):
        disk = Disk([1, 2, 3])
        found = disk.part(0, 3)
        found[0] = 9
        found.append(4)
        self.assertEqual(disk.part(0, 9), [1, 2, 3])
        kept = disk.part(0, 3)
        disk.change(0, 7)
        self.assertEqual(kept, [1, 2, 3])

    def test_copies_are_independent(self):
        disk = Disk([1, 2, 3])
        copy = disk.copied()
        self.assertIsInstance(copy, Disk)
        disk.append([4])
        disk.change(0, 9)
        self.assertEqual(copy.part(0, 9), [1, 2, 3])
        copy.cut(1)
        copy.change(0, 5)
        self.assertEqual(disk.part(0, 9), [9, 2, 3, 4])
        self.assertEqual(copy.part(0, 9), [5])


if __name__ == "__main__":
    unittest.main()
