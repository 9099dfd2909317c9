"""Filters and chains (points 13 to 15)."""

import itertools
import unittest

from tessera.errors import BadFilter
from tessera.filters import FILTERS, apply_chain, apply_filter, is_chain, undo_chain, undo_filter

WIDTHS = (1, 2, 4)


def sample_lists():
    return [
        [],
        [0],
        [255],
        [0, 0, 0],
        [1, 2, 3, 4, 5, 6, 7],
        [3, 3, 3, 5, 0, 0],
        [255, 0, 255, 0],
        list(range(256)) + [0] * 9,
        [7] * 600 + [0] * 300,
    ] + [[(at * at) % 251 for at in range(length)] for length in range(2, 20)]


class FilterTests(unittest.TestCase):
    def check_there_and_back(self, name, values, size):
        kept = list(values)
        passed = apply_filter(name, values, size)
        self.assertTrue(all(0 <= byte <= 255 for byte in passed))
        passed_before = list(passed)
        self.assertEqual(undo_filter(name, passed, size), kept)
        self.assertEqual(values, kept)
        self.assertEqual(passed, passed_before)

    def check_refused(self, name, values):
        for size in WIDTHS:
            with self.assertRaises(BadFilter) as caught:
                undo_filter(name, values, size)
            self.assertEqual(caught.exception.name, name)

    def test_names(self):
        self.assertEqual(FILTERS, ("delta", "planes", "runs", "zeros"))

    def test_examples(self):
        self.assertEqual(apply_filter("planes", [1, 2, 3, 4, 5, 6], 2), [1, 3, 5, 2, 4, 6])
        self.assertEqual(apply_chain(("delta", "runs"), [3, 3, 3, 5], 1), [1, 3, 2, 0, 1, 2])
        with self.assertRaises(BadFilter):
            undo_filter("runs", [2, 7, 3, 7], 1)

    def test_there_and_back(self):
        for name, values, size in itertools.product(FILTERS, sample_lists(), WIDTHS):
            self.check_there_and_back(name, values, size)

    def test_results_are_new_lists(self):
        for name, size in itertools.product(FILTERS, WIDTHS):
            values = [5, 6]
            self.assertIsNot(apply_filter(name, values, size), values)
            passed = apply_filter(name, values, size)
            self.assertIsNot(undo_filter(name, passed, size), passed)
        values = [5, 6]
        self.assertIsNot(apply_chain((), values, 1), values)
        self.assertIsNot(undo_chain((), values, 1), values)

    def test_delta(self):
        self.assertEqual(apply_filter("delta", [5, 5, 4, 255, 0], 2), [5, 0, 255, 251, 1])
        self.assertEqual(undo_filter("delta", [5, 0, 255, 251, 1], 2), [5, 5, 4, 255, 0])
        self.assertEqual(apply_filter("delta", [], 1), [])
        self.assertEqual(undo_filter("delta", [200, 100, 255], 1), [200, 44, 43])

    def test_planes(self):
        self.assertEqual(apply_filter("planes", [1, 2, 3], 1), [1, 2, 3])
        self.assertEqual(apply_filter("planes", [1, 2, 3, 4, 5], 2), [1, 3, 5, 2, 4])
        self.assertEqual(apply_filter("planes", [1, 2, 3, 4, 5, 6, 7], 4), [1, 5, 2, 6, 3, 7, 4])
        self.assertEqual(apply_filter("planes", [1, 2, 3], 4), [1, 2, 3])
        self.assertEqual(undo_filter("planes", [1, 3, 5, 2, 4], 2), [1, 2, 3, 4, 5])
        self.assertEqual(undo_filter("planes", [1, 5, 2, 6, 3, 7, 4], 4), [1, 2, 3, 4, 5, 6, 7])
        self.assertEqual(undo_filter("planes", [], 4), [])

    def test_delta_and_planes_are_never_refused(self):
        for name, values, size in itertools.product(("delta", "planes"), sample_lists(), WIDTHS):
            self.assertEqual(apply_filter(name, undo_filter(name, values, size), size), values)

    def test_runs(self):
        for length, due in (
            (1, [1]),
            (254, [254]),
            (255, [255]),
            (256, [255, 1]),
            (510, [255, 255]),
            (511, [255, 255, 1]),
            (765, [255, 255, 255]),
        ):
            for byte in (0, 7, 255):
                pairs = [one for count in due for one in (count, byte)]
                self.assertEqual(apply_filter("runs", [byte] * length, 1), pairs)
                self.assertEqual(undo_filter("runs", pairs, 1), [byte] * length)
                # A run ends where another byte stands.
                around = [9] + [byte] * length + [9, 9]
                self.assertEqual(apply_filter("runs", around, 1), [1, 9] + pairs + [2, 9])
                self.check_there_and_back("runs", around, 1)
        self.assertEqual(apply_filter("runs", [], 1), [])
        self.assertEqual(undo_filter("runs", [], 1), [])

    def test_runs_that_are_refused(self):
        for values in (
            [1],
            [1, 2, 3],
            [255, 7, 255],
            [0, 7],
            [2, 7, 0, 8],
            [0, 7, 2, 8],
            [255, 7, 0, 7],
            [2, 7, 3, 7],
            [254, 7, 1, 7],
            [254, 7, 255, 7],
            [1, 8, 1, 9, 1, 9],
            [255, 7, 3, 7, 255, 7],
        ):
            self.check_refused("runs", values)

    def test_short_lists_of_pairs_are_taken_if_runs_gives_them(self):
        for counts in itertools.product((0, 1, 254, 255), repeat=3):
            for repeated in itertools.product((3, 4), repeat=3):
                pairs = [one for pair in zip(counts, repeated) for one in pair]
                values = [byte for count, byte in zip(counts, repeated) for _ in range(count)]
                if apply_filter("runs", values, 1) == pairs:
                    self.assertEqual(undo_filter("runs", pairs, 1), values)
                else:
                    self.check_refused("runs", pairs)

    def test_zeros(self):
        self.assertEqual(apply_filter("zeros", [], 1), [0, 0])
        self.assertEqual(apply_filter("zeros", [5], 1), [0, 0, 5])
        self.assertEqual(apply_filter("zeros", [0, 5, 0, 0], 4), [0, 2, 0, 5])
        self.assertEqual(apply_filter("zeros", [0] * 300, 1), [1, 44])
        self.assertEqual(undo_filter("zeros", [0, 0], 1), [])
        self.assertEqual(undo_filter("zeros", [0, 2, 0, 5], 1), [0, 5, 0, 0])

    def test_many_zeros(self):
        for count, due in (
            (65534, [255, 254]),
            (65535, [255, 255]),
            (65536, [255, 255, 0]),
            (65537, [255, 255, 0, 0]),
        ):
            self.assertEqual(apply_filter("zeros", [0] * count, 1), due)
            self.assertEqual(undo_filter("zeros", due, 1), [0] * count)
            self.assertEqual(apply_filter("zeros", [8] + [0] * count, 1), due[:2] + [8] + due[2:])
            self.check_there_and_back("zeros", [8] + [0] * count, 1)

    def test_zeros_that_are_refused(self):
        for values in ([], [0], [255], [0, 0, 0], [0, 1, 5, 0], [255, 254, 0], [1, 0, 0]):
            self.check_refused("zeros", values)


class ChainTests(unittest.TestCase):
    def test_chains(self):
        self.assertIs(is_chain(()), True)
        for name in FILTERS:
            self.assertIs(is_chain((name,)), True)
            self.assertIs(is_chain((name,) * 6), True)
            self.assertIs(is_chain((name,) * 7), False)
        self.assertIs(is_chain(("delta", "planes", "runs", "zeros", "delta", "runs")), True)
        self.assertIs(is_chain(("delta", "planes", "runs", "zeros", "delta", "runs", "zeros")), False)

    def test_other_names(self):
        for names in (("",), ("Delta",), ("delta", "run"), ("zeros ",), ("deltaplanes",)):
            self.assertIs(is_chain(names), False)

    def test_filters_are_applied_in_order(self):
        values = [4, 0, 4, 0, 0, 0]
        for first, second, size in itertools.product(FILTERS, FILTERS, WIDTHS):
            due = apply_filter(second, apply_filter(first, values, size), size)
            self.assertEqual(apply_chain((first, second), values, size), due)
        self.assertEqual(apply_chain(("runs", "zeros"), [0, 0], 1), [0, 1, 2])
        self.assertEqual(apply_chain(("zeros", "runs"), [0, 0], 1), [1, 0, 1, 2])

    def test_chains_there_and_back(self):
        chains = [()]
        for length in range(1, 4):
            chains.extend(itertools.product(FILTERS, repeat=length))
        chains.extend([("runs",) * 6, ("zeros", "runs") * 3, ("delta", "delta", "planes") * 2])
        chains.append(("delta", "planes", "runs", "zeros", "delta", "runs"))
        chains.append(("delta", "planes", "runs", "zeros", "delta", "runs", "zeros"))
        for names, size in itertools.product(chains, WIDTHS):
            for values in ([], [0, 0, 0], [1, 2, 3, 4, 5, 6, 7], [9] * 300 + [0] * 5):
                kept = list(values)
                passed = apply_chain(names, values, size)
                self.assertEqual(undo_chain(names, passed, size), kept)
                self.assertEqual(values, kept)

    def test_the_empty_chain(self):
        self.assertEqual(apply_chain((), [5, 0], 4), [5, 0])
        self.assertEqual(undo_chain((), [5, 0], 4), [5, 0])

    def check_refused(self, names, values, due):
        kept = list(values)
        with self.assertRaises(BadFilter) as caught:
            undo_chain(names, values, 1)
        self.assertEqual(caught.exception.name, due)
        self.assertEqual(values, kept)

    def test_the_first_filter_that_refuses_is_named(self):
        self.check_refused(("runs", "zeros"), [0], "zeros")
        self.check_refused(("zeros", "runs"), [0], "runs")
        # The last filter takes these bytes, the one before it does not.
        self.check_refused(("runs", "zeros"), [0, 0, 5], "runs")
        self.check_refused(("zeros", "runs"), [1, 5], "zeros")
        self.check_refused(("delta", "runs", "delta", "zeros"), [0, 1, 7, 7], "runs")
        # Later filters of the way back would refuse, too.
        self.check_refused(("zeros", "runs", "zeros"), [0, 0, 0], "zeros")


if __name__ == "__main__":
    unittest.main()
