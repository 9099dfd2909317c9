"""Modules of the first two parts used together, as a file uses them (point 2)."""

import unittest

from tessera.disks import Disk
from tessera.errors import BadFilter, Damaged, TesseraError
from tessera.filters import apply_chain, undo_chain
from tessera.kinds import KINDS, greatest, least, load_values, store_values, width
from tessera.numbers import read_bytes, write_bytes
from tessera.records import make_record, read_record
from tessera.seals import make_ready, make_seal

CHAINS = [(), ("delta",), ("planes", "delta", "runs"), ("delta", "planes", "runs", "zeros")]


def values_of(kind):
    return [least(kind), greatest(kind), 0, 1, 1, 1, greatest(kind) - 1, 0, 0]


def file_of(kind, chain):
    """A file with a record of values that went through a chain, and its pointer."""
    passed = apply_chain(chain, store_values(kind, values_of(kind)), width(kind))
    record = make_record(3, write_bytes(passed))
    disk = Disk(record)
    disk.append(make_seal(0, (0, len(record))) * 2)
    return disk


def values_in(disk, kind, chain):
    _, pointer = make_ready(disk)
    content = read_record(disk, 3, pointer)
    passed, behind = read_bytes(content, 0)
    assert behind == len(content)
    return load_values(kind, undo_chain(chain, passed, width(kind)))


class TogetherTests(unittest.TestCase):
    def test_values_come_back_out_of_a_file(self):
        for kind in KINDS:
            for chain in CHAINS:
                self.assertEqual(values_in(file_of(kind, chain), kind, chain), values_of(kind))

    def test_only_seals_have_bytes_above_249(self):
        for kind in KINDS:
            for chain in CHAINS:
                disk = file_of(kind, chain)
                values = disk.part(0, len(disk))
                self.assertLessEqual(max(values[:-56]), 249)
                above = [byte for byte in values if byte > 249]
                self.assertEqual(above, [255, 254, 255, 254])

    def test_damage_is_told_or_does_not_matter(self):
        chain = CHAINS[2]
        whole = file_of("i2", chain)
        for at in range(len(whole)):
            for byte in (0, 3, 128, 249, 252, 255):
                disk = whole.copied()
                if disk.part(at, 1) == [byte]:
                    continue
                disk.change(at, byte)
                if at < len(whole) - 56:
                    with self.assertRaises(Damaged):
                        values_in(disk, "i2", chain)
                else:
                    self.assertEqual(values_in(disk, "i2", chain), values_of("i2"))

    def test_every_error_is_caught_as_the_base(self):
        with self.assertRaises(TesseraError):
            read_record(Disk([]), 1, (0, 3))
        with self.assertRaises(TesseraError):
            make_ready(Disk([]))
        with self.assertRaises(BadFilter):
            undo_chain(("runs",), [1], 1)


if __name__ == "__main__":
    unittest.main()
