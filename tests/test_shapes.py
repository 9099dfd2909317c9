"""Shapes and row order (point 9)."""

import itertools
import unittest

from tessera.shapes import element_count, index_of, indexes_in, is_shape, rank_of

SHAPES = [(), (1,), (5,), (2, 3), (3, 1, 2), (2, 3, 1, 4), (4, 3, 2, 2)]
GREAT = (10 ** 9, 10 ** 9, 10 ** 9, 10 ** 9)


class ShapeTests(unittest.TestCase):
    def test_shapes(self):
        for shape in SHAPES + [(0,), (0, 0, 0, 0), (10 ** 9,), GREAT, (3, 0)]:
            self.assertIs(is_shape(shape), True)

    def test_tuples_that_are_no_shapes(self):
        for shape in [
            (1, 1, 1, 1, 1),
            (0, 0, 0, 0, 0),
            (-1,),
            (10 ** 9 + 1,),
            (10 ** 29,),
            (2, -1, 3),
            (2, 3, 4, 10 ** 9 + 1),
            (-(10 ** 29), 2),
        ]:
            self.assertIs(is_shape(shape), False)

    def test_element_counts(self):
        self.assertEqual(element_count(()), 1)
        self.assertEqual(element_count((7,)), 7)
        self.assertEqual(element_count((2, 3, 4, 5)), 120)
        self.assertEqual(element_count((10 ** 9, 0)), 0)
        self.assertEqual(element_count(GREAT), 10 ** 36)

    def test_indexes_in_row_order(self):
        for shape in SHAPES:
            due = list(itertools.product(*[range(size) for size in shape]))
            self.assertEqual(list(indexes_in(shape)), due)
            self.assertEqual(due, sorted(due))

    def test_indexes_of_shapes_without_any(self):
        for shape in [(0,), (0, 3), (3, 0), (10 ** 9, 10 ** 9, 0, 10 ** 9), (0, 0, 0, 0)]:
            self.assertEqual(list(indexes_in(shape)), [])

    def test_indexes_of_no_dimensions(self):
        self.assertEqual(list(indexes_in(())), [()])

    def test_indexes_come_one_by_one(self):
        first = list(itertools.islice(indexes_in(GREAT), 3))
        self.assertEqual(first, [(0, 0, 0, 0), (0, 0, 0, 1), (0, 0, 0, 2)])

    def test_ranks_and_indexes(self):
        for shape in SHAPES:
            for rank, index in enumerate(indexes_in(shape)):
                self.assertEqual(rank_of(shape, index), rank)
                self.assertEqual(index_of(shape, rank), index)

    def test_ranks_of_great_shapes(self):
        last = (10 ** 9 - 1,) * 4
        self.assertEqual(rank_of(GREAT, last), 10 ** 36 - 1)
        self.assertEqual(index_of(GREAT, 10 ** 36 - 1), last)
        self.assertEqual(rank_of(GREAT, (1, 2, 3, 4)), 10 ** 27 + 2 * 10 ** 18 + 3 * 10 ** 9 + 4)
        self.assertEqual(index_of((7, 10 ** 9), 5 * 10 ** 9 + 8), (5, 8))
        self.assertEqual(rank_of((10 ** 9, 7), (10 ** 9 - 1, 6)), 7 * 10 ** 9 - 1)


if __name__ == "__main__":
    unittest.main()
