"""Kinds of elements (points 7 and 8)."""

import unittest

from tessera.errors import InvalidValue
from tessera.kinds import KINDS, greatest, least, load_values, store_values, width

ENDS = {
    "i1": (1, -128, 127),
    "i2": (2, -32768, 32767),
    "i4": (4, -2147483648, 2147483647),
    "u1": (1, 0, 255),
    "u2": (2, 0, 65535),
    "u4": (4, 0, 4294967295),
}


class KindTests(unittest.TestCase):
    def test_the_six_kinds(self):
        self.assertEqual(KINDS, ("i1", "i2", "i4", "u1", "u2", "u4"))

    def test_examples(self):
        self.assertEqual(store_values("i2", [1, -2]), [1, 0, 254, 255])
        with self.assertRaises(InvalidValue) as caught:
            store_values("u1", [255, 256])
        self.assertEqual(caught.exception.value, 256)

    def test_width_and_range(self):
        for kind, told in ENDS.items():
            self.assertEqual((width(kind), least(kind), greatest(kind)), told)

    def test_stored_ends(self):
        self.assertEqual(store_values("i1", [-128, -1, 0, 127]), [128, 255, 0, 127])
        self.assertEqual(store_values("u1", [0, 255]), [0, 255])
        self.assertEqual(store_values("i2", [-32768, 32767]), [0, 128, 255, 127])
        self.assertEqual(store_values("u2", [65535, 256]), [255, 255, 0, 1])
        self.assertEqual(store_values("i4", [-2147483648, -2]), [0, 0, 0, 128, 254, 255, 255, 255])
        self.assertEqual(store_values("u4", [67305985]), [1, 2, 3, 4])

    def test_bytes_are_those_of_python(self):
        for kind, (size, low, high) in ENDS.items():
            for value in (low, low + 1, low // 2, 0, 1, high // 3, high - 1, high):
                due = list(value.to_bytes(size, "little", signed=low < 0))
                self.assertEqual(store_values(kind, [value]), due)
                self.assertEqual(load_values(kind, due), [value])

    def test_storing_and_loading_give_each_other_back(self):
        for kind, (size, low, high) in ENDS.items():
            values = [low, high, 0, 1, low + 1, high - 1, high // 2, high // 2 + 1]
            stored = store_values(kind, values)
            self.assertEqual(len(stored), size * len(values))
            self.assertEqual(load_values(kind, stored), values)
            for byte in range(256):
                few = [byte] * size + [0] * (size - 1) + [byte] + [byte] + [0] * (size - 1)
                self.assertEqual(store_values(kind, load_values(kind, few)), few)

    def test_no_values(self):
        for kind in KINDS:
            self.assertEqual(store_values(kind, []), [])
            self.assertEqual(load_values(kind, []), [])

    def test_the_first_value_out_of_range_is_named(self):
        for kind, (_, low, high) in ENDS.items():
            for wrong in (low - 1, high + 1, low - 10 ** 20, high + 10 ** 20, -(10 ** 29), 10 ** 29):
                for values in ([wrong], [low, high, wrong], [0, wrong, high + 2, low - 2]):
                    kept = list(values)
                    with self.assertRaises(InvalidValue) as caught:
                        store_values(kind, values)
                    self.assertEqual(caught.exception.value, wrong)
                    self.assertEqual(values, kept)

    def test_values_of_many_digits_are_named(self):
        for kind, (_, low, high) in ENDS.items():
            for digits in (30, 31, 4300, 4301, 40000):
                for wrong in (10 ** digits, -(10 ** digits)):
                    with self.assertRaises(InvalidValue) as caught:
                        store_values(kind, [low, high, wrong, high + 1])
                    self.assertTrue(caught.exception.value == wrong)

    def test_lists_are_not_changed(self):
        values, stored = [1, -2], [1, 0, 254, 255]
        store_values("i2", values)
        load_values("i2", stored)
        self.assertEqual((values, stored), ([1, -2], [1, 0, 254, 255]))


if __name__ == "__main__":
    unittest.main()
