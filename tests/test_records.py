"""Records (points 17 and 18)."""

import unittest

from tessera.disks import Disk
from tessera.errors import Damaged
from tessera.numbers import check_of
from tessera.records import make_record, read_record

CONTENTS = [[], [0], [7, 8], [249] * 5, list(range(250)), [249] * 600]


class RecordTests(unittest.TestCase):
    def check_damaged(self, disk, kind, pointer):
        with self.assertRaises(Damaged) as caught:
            read_record(disk, kind, pointer)
        self.assertEqual((caught.exception.address, caught.exception.length), pointer)

    def test_examples(self):
        record = make_record(3, [7, 8])
        self.assertEqual(read_record(Disk([0] + record), 3, (1, len(record))), [7, 8])
        self.check_damaged(Disk([3, 7, 8, 0, 17]), 3, (0, 5))

    def test_bytes_of_records(self):
        self.assertEqual(make_record(3, [7, 8]), [3, 7, 8, 0, 18])
        self.assertEqual(make_record(1, []), [1, 0, 1])
        self.assertEqual(make_record(4, [249]), [4, 249, 1, 3])
        for content in CONTENTS:
            for kind in (1, 2, 3, 4):
                record = make_record(kind, content)
                self.assertEqual(record, [kind] + content + check_of([kind] + content))
                self.assertLessEqual(max(record), 249)

    def test_reading_gives_the_content(self):
        for content in CONTENTS:
            for kind in (1, 2, 3, 4):
                record = make_record(kind, content)
                for before in ([], [255, 254], [3]):
                    disk = Disk(before + record + [1, 255])
                    pointer = (len(before), len(record))
                    self.assertEqual(read_record(disk, kind, pointer), content)
                    self.assertEqual(disk.part(0, 10 ** 4), before + record + [1, 255])

    def test_lists_are_not_shared(self):
        content = [7, 8]
        record = make_record(3, content)
        record[1] = 0
        self.assertEqual(content, [7, 8])
        disk = Disk(make_record(3, content))
        found = read_record(disk, 3, (0, 5))
        found[0] = 9
        self.assertEqual(read_record(disk, 3, (0, 5)), [7, 8])

    def test_any_changed_byte(self):
        for content in ([], [0, 249, 7], list(range(0, 250, 25)), [249] * 260):
            record = make_record(2, content)
            disk = Disk([9] + record + [9])
            places = list(range(len(record))) if len(record) < 20 else [0, 1, 100, 259, 261, 262]
            for at in places:
                for byte in range(256):
                    if byte != record[at]:
                        disk.change(1 + at, byte)
                        self.check_damaged(disk, 2, (1, len(record)))
                disk.change(1 + at, record[at])
                self.assertEqual(read_record(disk, 2, (1, len(record))), content)

    def test_bytes_around_the_record_do_not_matter(self):
        record = make_record(2, [5, 6])
        disk = Disk([9] + record + [9])
        for byte in range(256):
            disk.change(0, byte)
            disk.change(len(record) + 1, byte)
            self.assertEqual(read_record(disk, 2, (1, len(record))), [5, 6])

    def test_files_cut_within_the_record(self):
        record = make_record(4, [1, 2, 0, 0])
        for length in range(len(record)):
            self.check_damaged(Disk(record[:length]), 4, (0, len(record)))
            self.check_damaged(Disk([0] + record[:length]), 4, (1, len(record)))

    def test_another_kind(self):
        for kind in (1, 2, 3, 4):
            record = make_record(kind, [5, 6])
            for other in (1, 2, 3, 4):
                if other != kind:
                    self.check_damaged(Disk(record), other, (0, len(record)))

    def test_a_byte_above_249_with_a_right_check(self):
        for byte in range(250, 256):
            values = [3, byte]
            self.check_damaged(Disk(values + check_of(values)), 3, (0, 4))
        values = [3] + [249] * 250 + [0, 2]
        # The sum is 62255, so the check is written with a quotient of 249.
        self.assertEqual(read_record(Disk(values + check_of(values)), 3, (0, 255)), values[1:])

    def test_other_pointers(self):
        record = make_record(3, [7, 8, 9, 200])
        disk = Disk([5] + record + [5, 6])
        for address in range(len(disk) + 2):
            for length in range(len(disk) + 2):
                pointer = (address, length)
                if pointer == (1, len(record)):
                    self.assertEqual(read_record(disk, 3, pointer), [7, 8, 9, 200])
                elif pointer != (0, 0):
                    self.check_damaged(disk, 3, pointer)

    def test_pointers_far_away(self):
        disk = Disk(make_record(3, [7]))
        for pointer in ((250 ** 8 - 1, 4), (0, 250 ** 8 - 1), (10 ** 29, 10 ** 29), (10 ** 5000, 10 ** 6000)):
            self.check_damaged(disk, 3, pointer)

    def test_too_short_for_a_record(self):
        disk = Disk([0, 0, 0, 0])
        for pointer in ((1, 0), (1, 1), (1, 2), (0, 1), (0, 2)):
            for kind in (1, 2, 3, 4):
                self.check_damaged(disk, kind, pointer)


if __name__ == "__main__":
    unittest.main()
