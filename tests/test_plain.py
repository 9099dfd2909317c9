"""Plain arrays (point 12)."""

import random
import unittest

from tessera.errors import InvalidSelection, InvalidShape, TooLarge, WrongCount
from tessera.plain import PlainArray
from tessera.selections import whole

from tests.plain_store import count_of, indexes_of, picked_of
from tests.tools import error_of

SHAPES = [(), (5,), (1,), (0,), (3, 4), (4, 0), (0, 10 ** 9), (2, 3, 2), (2, 1, 3, 2), (0, 0, 0, 0)]


def numbered(shape, fill=-7):
    """An array whose values are 100, 101 and so on in row order."""
    array = PlainArray(shape, fill)
    array.write(whole(shape), [100 + rank for rank in range(count_of(shape))])
    return array


class Model:
    """A table from the indexes to the values."""

    def __init__(self, shape, fill):
        self.shape, self.fill, self.table = shape, fill, {}

    def all_values(self):
        return [self.table.get(index, self.fill) for index in indexes_of(self.shape)]

    def read(self, selection):
        return [self.table.get(index, self.fill) for index in picked_of(self.shape, selection)]

    def write(self, selection, values):
        for index, value in zip(picked_of(self.shape, selection), values):
            self.table[index] = value

    def resize(self, shape):
        self.shape = shape
        kept = indexes_of(shape)
        self.table = {index: value for index, value in self.table.items() if index in kept}


class MakingTests(unittest.TestCase):
    def test_all_values_are_the_fill_value(self):
        for shape in SHAPES:
            for fill in (0, -3, 10 ** 29):
                array = PlainArray(shape, fill)
                self.assertEqual((array.shape, array.fill), (shape, fill))
                self.assertEqual(array.all_values(), [fill] * count_of(shape))

    def test_shapes_that_are_not_valid(self):
        for shape in [(-1,), (10 ** 9 + 1,), (2, -1), (1, 1, 1, 1, 1), (0, 10 ** 9 + 1), (0, 0, 0, 0, 0), (-1, -1)]:
            self.assertEqual(error_of(lambda: PlainArray(shape, 0)), (InvalidShape, {}), shape)

    def test_the_limit_of_elements(self):
        self.assertEqual(len(PlainArray((100000,), 1).all_values()), 100000)
        self.assertEqual(len(PlainArray((10, 100, 100), 1).all_values()), 100000)
        for shape in [(100001,), (317, 317), (10 ** 9,), (10 ** 9,) * 4, (1, 100001, 1)]:
            self.assertEqual(error_of(lambda: PlainArray(shape, 0)), (TooLarge, {"limit": 100000}), shape)

    def test_a_shape_that_is_not_valid_is_named_first(self):
        for shape in [(10 ** 9, 10 ** 9 + 1), (100001, 1, 1, 1, 1)]:
            self.assertEqual(error_of(lambda: PlainArray(shape, 0)), (InvalidShape, {}))


class ReadingTests(unittest.TestCase):
    def test_boxes(self):
        array = numbered((3, 4))
        self.assertEqual(array.read(("box", ((0, 2, 2), (1, 1, 2)))), [101, 102, 109, 110])
        self.assertEqual(array.read(("box", ((2, 1, 1), (0, 3, 2)))), [108, 111])
        self.assertEqual(array.read(("box", ((0, 1, 0), (9, 1, 5)))), [])
        self.assertEqual(array.read(whole((3, 4))), list(range(100, 112)))

    def test_points_and_repeated_points(self):
        array = numbered((3, 4))
        self.assertEqual(array.read(("points", ((2, 3), (0, 0), (2, 3), (1, 1)))), [111, 100, 111, 105])
        self.assertEqual(array.read(("points", ())), [])

    def test_no_dimensions(self):
        array = numbered(())
        self.assertEqual(array.read(("box", ())), [100])
        self.assertEqual(array.read(("points", ((), ()))), [100, 100])

    def test_lists_that_are_returned_are_new(self):
        array = numbered((3,))
        array.all_values().append(7)
        array.read(whole((3,))).clear()
        first = array.all_values()
        first[0] = 5
        self.assertEqual(array.all_values(), [100, 101, 102])

    def test_what_does_not_fit(self):
        array = numbered((3, 4))
        for selection in [
            ("box", ((0, 1, 4), (0, 1, 1))), ("box", ((0, 1, 1),)), ("box", ((-1, 1, 1), (0, 1, 1))),
            ("box", ((0, 0, 1), (0, 1, 1))), ("box", ((0, 1, -1), (0, 1, 1))), ("points", ((3, 0),)),
            ("points", ((0, 0), (0, -1))), ("points", ((0,),)), ("box", ()), ("box", ((0, 1, 200000), (0, 1, 4))),
        ]:
            self.assertEqual(error_of(lambda: array.read(selection)), (InvalidSelection, {}))

    def test_the_limit_of_what_is_picked(self):
        array = numbered((2,))
        self.assertEqual(len(array.read(("points", ((1,),) * 100000))), 100000)
        self.assertEqual(error_of(lambda: array.read(("points", ((1,),) * 100001))), (TooLarge, {"limit": 100000}))
        due = (InvalidSelection, {})
        self.assertEqual(error_of(lambda: array.read(("points", ((1,),) * 100000 + ((2,),)))), due)
        self.assertEqual(len(PlainArray((100000,), 3).read(whole((100000,)))), 100000)


class WritingTests(unittest.TestCase):
    def test_writing_boxes(self):
        array = PlainArray((2, 3), 0)
        self.assertIsNone(array.write(("box", ((1, 1, 1), (0, 2, 2))), [5, 6]))
        self.assertEqual(array.all_values(), [0, 0, 0, 5, 0, 6])

    def test_the_last_value_stays(self):
        array = PlainArray((2, 2), 0)
        array.write(("points", ((1, 1), (0, 1), (1, 1))), [5, 6, 7])
        self.assertEqual(array.all_values(), [0, 6, 0, 7])

    def test_the_list_is_copied(self):
        array = PlainArray((3,), 0)
        values = [1, 2, 3]
        array.write(whole((3,)), values)
        self.assertEqual(values, [1, 2, 3])
        values[0] = 9
        values.append(4)
        self.assertEqual(array.all_values(), [1, 2, 3])

    def test_values_of_any_size(self):
        array = PlainArray((2,), 0)
        array.write(whole((2,)), [10 ** 30 - 1, -10 ** 30 + 1])
        self.assertEqual(array.all_values(), [10 ** 30 - 1, -10 ** 30 + 1])

    def refused(self, array, selection, values, error, **fields):
        before = array.all_values()
        self.assertEqual(error_of(lambda: array.write(selection, values)), (error, fields))
        self.assertEqual(array.all_values(), before)

    def test_errors_in_their_order(self):
        array = numbered((2, 3))
        wrong = ("box", ((0, 1, 3), (0, 1, 1)))
        many = ("points", ((0, 0),) * 100001)
        self.refused(array, wrong, [1], InvalidSelection)
        self.refused(array, wrong, [1, 2, 3], InvalidSelection)
        self.refused(array, many, [1], TooLarge, limit=100000)
        self.refused(array, many, [1] * 100001, TooLarge, limit=100000)
        self.refused(array, whole((2, 3)), [1] * 5, WrongCount, due=6, given=5)
        self.refused(array, whole((2, 3)), [1] * 7, WrongCount, due=6, given=7)
        self.refused(array, whole((2, 3)), [], WrongCount, due=6, given=0)
        self.refused(array, ("points", ()), [1], WrongCount, due=0, given=1)
        self.assertIsNone(array.write(("points", ()), []))


class ResizingTests(unittest.TestCase):
    def test_smaller_greater_and_mixed(self):
        array = numbered((2, 3))
        self.assertIsNone(array.resize((3, 2)))
        self.assertEqual((array.shape, array.fill), ((3, 2), -7))
        self.assertEqual(array.all_values(), [100, 101, 103, 104, -7, -7])
        array.resize((1, 4))
        self.assertEqual(array.all_values(), [100, 101, -7, -7])
        array.resize((2, 3))
        self.assertEqual(array.all_values(), [100, 101, -7, -7, -7, -7])

    def test_by_way_of_the_size_0(self):
        array = numbered((2, 2))
        array.resize((2, 0))
        self.assertEqual((array.shape, array.all_values()), ((2, 0), []))
        array.resize((10 ** 9, 0))
        array.resize((2, 2))
        self.assertEqual(array.all_values(), [-7] * 4)

    def test_no_dimensions(self):
        array = numbered(())
        array.resize(())
        self.assertEqual(array.all_values(), [100])

    def test_errors_in_their_order(self):
        array = numbered((2, 3))
        for shape in [(-1, 3), (2, 10 ** 9 + 1), (2,), (2, 3, 1), (1, 1, 1, 1, 1), (), (100001,), (10 ** 9 + 1, 10 ** 9)]:
            self.assertEqual(error_of(lambda: array.resize(shape)), (InvalidShape, {}), shape)
        for shape in [(100001, 1), (317, 317), (10 ** 9, 10 ** 9)]:
            self.assertEqual(error_of(lambda: array.resize(shape)), (TooLarge, {"limit": 100000}), shape)
        self.assertEqual((array.shape, array.all_values()), ((2, 3), list(range(100, 106))))
        array.resize((1000, 100))
        self.assertEqual(len(array.all_values()), 100000)

    def test_many_mixed_changes(self):
        for seed in range(60):
            choose = random.Random(seed)
            dimensions = choose.randrange(5)
            shape = tuple([choose.randrange(5) for _ in range(dimensions)])
            array, model = PlainArray(shape, seed), Model(shape, seed)
            for _ in range(12):
                if choose.random() < 0.4:
                    shape = tuple([choose.randrange(5) for _ in range(dimensions)])
                    array.resize(shape)
                    model.resize(shape)
                indexes = indexes_of(shape)
                points = tuple([choose.choice(indexes) for _ in range(choose.randrange(6))]) if indexes else ()
                ranges = tuple([(choose.randrange(size), 1, 1) if size else (0, 2, 0) for size in shape])
                for selection in (("points", points), ("box", ranges)):
                    values = [choose.randrange(1000) for _ in picked_of(shape, selection)]
                    array.write(selection, values)
                    model.write(selection, values)
                    self.assertEqual(array.read(selection), model.read(selection))
                self.assertEqual((array.shape, array.all_values()), (model.shape, model.all_values()))


if __name__ == "__main__":
    unittest.main()
