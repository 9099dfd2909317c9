"""Layouts, chunk shapes and grid indexes (points 28 and 29)."""

import unittest

from tessera.errors import InvalidSelection, TooLarge
from tessera.layouts import Layout, grid_index, grids_of, is_chunk_shape, rank_in_chunk
from tessera.selections import picked, whole
from tessera.shapes import indexes_in


def layout_of(*chunk_shape):
    return Layout("u1", chunk_shape, 0, ())


class LayoutTests(unittest.TestCase):
    def test_fields(self):
        layout = Layout("i2", (2, 3), -5, ("delta", "runs"))
        self.assertEqual((layout.kind, layout.chunk_shape), ("i2", (2, 3)))
        self.assertEqual((layout.fill, layout.filters), (-5, ("delta", "runs")))

    def test_equal_and_different_layouts(self):
        parts = ("i2", (2, 3), -5, ("delta", "runs"))
        self.assertTrue(Layout(*parts) == Layout(*parts))
        self.assertFalse(Layout(*parts) != Layout(*parts))
        others = [("i4",), ((3, 2), (2, 3, 1), ()), (5, 0), (("runs", "delta"), ("delta",), ())]
        for at, values in enumerate(others):
            for value in values:
                changed = parts[:at] + (value,) + parts[at + 1:]
                self.assertFalse(Layout(*parts) == Layout(*changed))
                self.assertTrue(Layout(*parts) != Layout(*changed))
        self.assertFalse(Layout(*parts) == parts)


class ChunkShapeTests(unittest.TestCase):
    def test_sizes(self):
        good = [(1,), (4096,), (1, 4096), (64, 64), (8, 8, 8, 8), (1, 1, 1, 1), (2, 3)]
        bad = [(0,), (4097,), (2, 2049), (64, 65), (0, 5), (5, 0), (8, 8, 8, 9), (-1,), (-1, -1), (10 ** 9 + 1,)]
        for shape in good:
            self.assertIs(is_chunk_shape(shape, len(shape)), True)
        for shape in bad:
            self.assertIs(is_chunk_shape(shape, len(shape)), False)

    def test_numbers_of_dimensions(self):
        self.assertIs(is_chunk_shape((), 0), True)
        self.assertIs(is_chunk_shape((), 1), False)
        self.assertIs(is_chunk_shape((1,), 0), False)
        self.assertIs(is_chunk_shape((2, 2), 1), False)
        self.assertIs(is_chunk_shape((2, 2), 3), False)
        self.assertIs(is_chunk_shape((1, 1, 1, 1, 1), 5), False)


class GridTests(unittest.TestCase):
    def test_grid_index(self):
        self.assertEqual(grid_index((2, 3), (5, 7)), (2, 2))
        self.assertEqual(grid_index((), ()), ())
        self.assertEqual(grid_index((4,), (3,)), (0,))
        self.assertEqual(grid_index((4,), (4,)), (1,))
        self.assertEqual(grid_index((1, 2, 3, 4), (9, 9, 9, 9)), (9, 4, 3, 2))
        self.assertEqual(grid_index((4096,), (10 ** 9 - 1,)), (244140,))

    def test_rank_in_chunk(self):
        self.assertEqual(rank_in_chunk((2, 3), (5, 7)), 4)
        self.assertEqual(rank_in_chunk((), ()), 0)
        for number, index in enumerate(indexes_in((2, 3, 2))):
            moved = (index[0] + 6, index[1] + 3, index[2])
            self.assertEqual(rank_in_chunk((2, 3, 2), moved), number)

    def test_grids_of_boxes(self):
        self.assertEqual(grids_of(layout_of(2), (7,), whole((7,))), [(0,), (1,), (2,), (3,)])
        self.assertEqual(grids_of(layout_of(2), (7,), ("box", ((1, 4, 2),))), [(0,), (2,)])
        self.assertEqual(grids_of(layout_of(2, 3), (4, 4), whole((4, 4))), [(0, 0), (0, 1), (1, 0), (1, 1)])
        self.assertEqual(grids_of(layout_of(2, 3), (4, 4), ("box", ((1, 1, 1), (3, 1, 1)))), [(0, 1)])
        self.assertEqual(grids_of(layout_of(), (), whole(())), [()])

    def test_grids_of_points(self):
        points = ("points", ((6,), (0,), (6,), (1,), (7,)))
        self.assertEqual(grids_of(layout_of(2), (9,), points), [(0,), (3,)])
        self.assertEqual(grids_of(layout_of(), (), ("points", ((), ()))), [()])
        far = ("points", ((10 ** 9 - 1,), (0,)))
        self.assertEqual(grids_of(layout_of(10), (10 ** 9,), far), [(0,), (10 ** 8 - 1,)])

    def test_grids_of_nothing(self):
        for shape, selection in [
            ((9,), ("points", ())), ((9,), ("box", ((3, 1, 0),))), ((9,), ("box", ((300, 1, 0),))), ((0,), whole((0,))),
        ]:
            self.assertEqual(grids_of(layout_of(2), shape, selection), [])
        self.assertEqual(grids_of(layout_of(2, 2), (9, 9), ("box", ((0, 1, 9), (0, 1, 0)))), [])

    def test_grids_are_ascending_and_each_once(self):
        layout = layout_of(3, 2)
        for selection in [whole((10, 10)), ("points", tuple(list(indexes_in((10, 10)))[::-7]))]:
            due = {grid_index((3, 2), index) for index in picked((10, 10), selection)}
            self.assertEqual(grids_of(layout, (10, 10), selection), sorted(due))

    def test_what_does_not_fit(self):
        for selection in [("box", ((0, 1, 8),)), ("points", ((7,),)), ("points", ((0, 0),)), ("box", ((0, 0, 1),))]:
            with self.assertRaises(InvalidSelection):
                grids_of(layout_of(2), (7,), selection)
        with self.assertRaises(TooLarge) as caught:
            grids_of(layout_of(2), (10 ** 9,), whole((10 ** 9,)))
        self.assertEqual(caught.exception.limit, 100000)
        with self.assertRaises(InvalidSelection):
            grids_of(layout_of(2), (7,), whole((10 ** 9,)))


if __name__ == "__main__":
    unittest.main()
