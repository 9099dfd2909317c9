"""Numbers, integers, lists, texts and the check (points 3 to 6)."""

import unittest

from tessera.errors import Unreadable
from tessera.numbers import (
    check_of,
    read_bytes,
    read_integer,
    read_integers,
    read_number,
    read_text,
    write_bytes,
    write_integer,
    write_integers,
    write_number,
    write_text,
)

READERS = (read_number, read_integer, read_integers, read_bytes, read_text)
ALL_CHARACTERS = "".join([chr(code) for code in range(32, 127) if code != 37])


def sample_numbers():
    near_powers = [125 ** power + step for power in range(15) for step in (-1, 0, 1)]
    twenty_nine = [10 ** 28, 10 ** 29 - 1, 12345678901234567890123456789]
    return [0, 1, 2, 7, 250, 1000] + near_powers + twenty_nine


def sample_integers():
    return sample_numbers() + [-number for number in sample_numbers()]


def sample_lists_of_bytes():
    return [
        [],
        [0],
        [248, 249, 250, 255],
        list(range(256)),
        [255] * 300,
        [249, 0, 249, 6, 6, 249],
    ]


class WritingTests(unittest.TestCase):
    def test_examples(self):
        self.assertEqual(write_number(1000), [125, 8])
        self.assertEqual(read_integer([7, 3, 9], 1), (-2, 2))
        self.assertEqual(write_bytes([5, 250]), [2, 5, 249, 1])

    def test_numbers(self):
        self.assertEqual(write_number(0), [0])
        self.assertEqual(write_number(1), [1])
        self.assertEqual(write_number(124), [124])
        self.assertEqual(write_number(125), [125, 1])
        self.assertEqual(write_number(126), [126, 1])
        self.assertEqual(write_number(125 ** 2 - 1), [249, 124])
        self.assertEqual(write_number(125 ** 2), [125, 125, 1])
        self.assertEqual(write_number(3 + 4 * 125 + 5 * 125 ** 2), [128, 129, 5])

    def test_numbers_are_their_digits(self):
        for number in sample_numbers():
            written = write_number(number)
            digits = [byte - 125 for byte in written[:-1]] + [written[-1]]
            self.assertTrue(all(0 <= digit < 125 for digit in digits))
            self.assertEqual(sum(digit * 125 ** at for at, digit in enumerate(digits)), number)
            self.assertTrue(digits[-1] > 0 or written == [0])

    def test_integers(self):
        for number, doubled in ((0, 0), (-1, 1), (1, 2), (-2, 3), (2, 4), (-63, 125), (63, 126)):
            self.assertEqual(write_integer(number), write_number(doubled))
        self.assertEqual(write_integer(-(10 ** 29)), write_number(2 * 10 ** 29 - 1))

    def test_lists_of_integers(self):
        self.assertEqual(write_integers([]), [0])
        self.assertEqual(write_integers([5, -1, 1000]), [3, 10, 1, 125, 16])
        self.assertEqual(write_integers([0] * 125), [125, 1] + [0] * 125)

    def test_lists_of_bytes(self):
        self.assertEqual(write_bytes([]), [0])
        self.assertEqual(write_bytes([0, 248]), [2, 0, 248])
        self.assertEqual(write_bytes([249]), [1, 249, 0])
        self.assertEqual(write_bytes([250]), [1, 249, 1])
        self.assertEqual(write_bytes([255]), [1, 249, 6])

    def test_texts(self):
        self.assertEqual(write_text(""), [0])
        self.assertEqual(write_text("a ~"), [3, 97, 32, 126])
        self.assertEqual(write_text(ALL_CHARACTERS), [94] + [ord(one) for one in ALL_CHARACTERS])

    def test_no_byte_above_249_is_written(self):
        for number in sample_integers():
            self.assertLessEqual(max(write_integer(number)), 249)
        for values in sample_lists_of_bytes():
            self.assertLessEqual(max(write_bytes(values)), 249)

    def test_arguments_stay_as_they_are(self):
        numbers, values = [5, -1], [5, 250]
        write_integers(numbers)
        write_bytes(values)
        check_of(values)
        self.assertEqual((numbers, values), ([5, -1], [5, 250]))


class ReadingBackTests(unittest.TestCase):
    def check_back(self, read, thing, written):
        """What was written is read at any index, whatever stands around it."""
        for before in ([], [0], [255], [125, 249, 3]):
            for behind in ([], [0], [249], [255, 254], [125, 6, 0]):
                values = before + written + behind
                kept = list(values)
                self.assertEqual(read(values, len(before)), (thing, len(before) + len(written)))
                self.assertEqual(values, kept)

    def test_numbers(self):
        for number in sample_numbers():
            self.check_back(read_number, number, write_number(number))

    def test_integers(self):
        for number in sample_integers():
            self.check_back(read_integer, number, write_integer(number))

    def test_lists_of_integers(self):
        for numbers in ([], [0], [-1], [5, -124, 125, 10 ** 29], sample_integers(), [0] * 130):
            self.check_back(read_integers, numbers, write_integers(numbers))

    def test_lists_of_bytes(self):
        for values in sample_lists_of_bytes():
            self.check_back(read_bytes, values, write_bytes(values))

    def test_texts(self):
        for text in ("", " ", "~", "a/b", ALL_CHARACTERS, ALL_CHARACTERS * 3):
            self.check_back(read_text, text, write_text(text))
        for character in ALL_CHARACTERS:
            self.check_back(read_text, character, write_text(character))

    def test_the_result_is_a_pair(self):
        for read in READERS:
            self.assertIsInstance(read([0], 0), tuple)


class RefusalTests(unittest.TestCase):
    def check_refused(self, read, values, index):
        with self.assertRaises(Unreadable) as caught:
            read(values, index)
        self.assertEqual(caught.exception.index, index)

    def check_refused_in_place(self, read, values):
        self.check_refused(read, values, 0)
        self.check_refused(read, [1, 2, 3] + values, 3)

    def test_index_outside_of_the_bytes(self):
        for read in READERS:
            for index in (-1, -2, -3, -100, 3, 4, 100):
                self.check_refused(read, [0, 0, 0], index)
            self.check_refused(read, [], 0)
            self.check_refused(read, [], -1)

    def test_bytes_that_end_too_early(self):
        numbers = [5, -124, 125, 10 ** 29]
        examples = (
            (read_number, write_number(10 ** 29)),
            (read_number, write_number(125)),
            (read_integer, write_integer(-(10 ** 29))),
            (read_integers, write_integers(numbers)),
            (read_integers, write_integers([1] * 126)),
            (read_bytes, write_bytes([0, 249, 7, 255])),
            (read_bytes, write_bytes([3] * 126)),
            (read_text, write_text("a text")),
        )
        for read, written in examples:
            for length in range(len(written)):
                self.check_refused_in_place(read, written[:length])

    def test_bytes_above_249(self):
        for byte in range(250, 256):
            for read in READERS:
                self.check_refused_in_place(read, [byte])
                self.check_refused_in_place(read, [125, byte])
            self.check_refused_in_place(read_integers, [2, 1, byte])
            self.check_refused_in_place(read_integers, [2, 1, 125, byte])
            self.check_refused_in_place(read_bytes, [2, 1, byte])
            self.check_refused_in_place(read_text, [2, 97, byte])

    def test_last_digit_zero(self):
        for read in READERS:
            self.check_refused_in_place(read, [125, 0])
            self.check_refused_in_place(read, [126, 0, 65, 65])
            self.check_refused_in_place(read, [249, 125, 0])
        self.check_refused_in_place(read_integers, [1, 125, 0])
        self.check_refused_in_place(read_integers, [2, 7, 130, 130, 0])

    def test_escapes(self):
        for behind in range(7):
            self.assertEqual(read_bytes([1, 249, behind], 0), ([249 + behind], 3))
        for behind in range(7, 256):
            self.check_refused_in_place(read_bytes, [1, 249, behind])
            self.check_refused_in_place(read_bytes, [2, 0, 249, behind])
        self.check_refused_in_place(read_bytes, [1, 249])
        self.check_refused_in_place(read_text, [1, 249])
        self.check_refused_in_place(read_text, [1, 249, 7])

    def test_codes_of_texts(self):
        for code in range(256):
            written = write_bytes([97, code])
            if 32 <= code <= 126 and code != 37:
                self.assertEqual(read_text(written, 0), ("a" + chr(code), 3))
            else:
                self.check_refused_in_place(read_text, written)

    def test_counts_far_beyond_the_bytes(self):
        many = write_number(10 ** 29)
        for read in (read_integers, read_bytes, read_text):
            self.check_refused_in_place(read, many + [65] * 20)


class CheckTests(unittest.TestCase):
    def test_checks(self):
        self.assertEqual(check_of([]), [0, 0])
        self.assertEqual(check_of([3, 7, 8]), [0, 18])
        self.assertEqual(check_of([249]), [0, 249])
        self.assertEqual(check_of([249, 1]), [1, 0])
        self.assertEqual(check_of([255, 255]), [2, 10])

    def test_sums_around_the_modulus(self):
        self.assertEqual(check_of([250] * 249 + [249]), [249, 249])
        self.assertEqual(check_of([250] * 250), [0, 0])
        self.assertEqual(check_of([250] * 250 + [1]), [0, 1])
        self.assertEqual(check_of([255] * 1000), [(255000 % 62500) // 250, (255000 % 62500) % 250])

    def test_any_changed_byte_changes_the_check(self):
        for values in ([0, 255, 7], [250] * 251):
            check = check_of(values)
            for at in (0, 1, len(values) - 1):
                for byte in range(256):
                    changed = values[:at] + [byte] + values[at + 1:]
                    self.assertEqual(check_of(changed) == check, byte == values[at])


if __name__ == "__main__":
    unittest.main()
