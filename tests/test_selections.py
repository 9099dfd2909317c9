"""Selections (points 10 and 11)."""

import itertools
import unittest

from tessera.errors import InvalidSelection, TooLarge
from tessera.selections import fits, meeting, picked, selection_size, whole

FITTING = [
    ((3, 4), ("box", ((0, 2, 2), (1, 1, 2)))),
    ((3, 4), ("box", ((0, 1, 3), (0, 1, 4)))),
    ((3, 4), ("box", ((2, 1, 1), (3, 9, 1)))),
    ((3, 4), ("box", ((0, 2, 2), (0, 3, 2)))),
    ((), ("box", ())),
    ((5,), ("box", ((0, 4, 2),))),
    ((5,), ("box", ((4, 10 ** 29, 1),))),
    ((2, 2, 2, 2), ("box", ((0, 1, 2),) * 4)),
    # An empty range picks nothing, and lets the other ranges reach beyond.
    ((3, 4), ("box", ((0, 1, 0), (0, 1, 4)))),
    ((3, 4), ("box", ((7, 1, 0), (0, 1, 4)))),
    ((3, 4), ("box", ((3, 1, 0), (4, 1, 0)))),
    ((3, 4), ("box", ((0, 1, 4), (0, 1, 0)))),
    ((3, 4), ("box", ((10 ** 29, 1, 10 ** 29), (10 ** 29, 10 ** 29, 0)))),
    ((0,), ("box", ((0, 1, 0),))),
    ((0, 5), ("box", ((0, 1, 0), (4, 1, 1)))),
    ((3, 4), ("points", ((2, 3), (0, 0), (2, 3)))),
    ((3, 4), ("points", ())),
    ((), ("points", ((), ()))),
    ((), ("points", ())),
    ((0, 4), ("points", ())),
]

NOT_FITTING = [
    # Another number of dimensions.
    ((3, 4), ("box", ((0, 1, 2),))),
    ((3, 4), ("box", ())),
    ((3,), ("box", ((0, 1, 2), (0, 1, 1)))),
    ((), ("box", ((0, 1, 1),))),
    ((3, 4), ("box", ((0, 1, 0),))),
    ((3, 4), ("points", ((1,),))),
    ((3,), ("points", ((1, 1),))),
    ((3,), ("points", ((1,), ()))),
    ((), ("points", ((0,),))),
    # Beyond the shape.
    ((3, 4), ("box", ((0, 1, 4), (0, 1, 1)))),
    ((3, 4), ("box", ((0, 1, 3), (1, 1, 4)))),
    ((3, 4), ("box", ((0, 3, 2), (0, 1, 1)))),
    ((3, 4), ("box", ((3, 1, 1), (0, 1, 1)))),
    ((5,), ("box", ((0, 10 ** 29, 2),))),
    ((0,), ("box", ((0, 1, 1),))),
    ((3, 4), ("points", ((2, 3), (2, 4)))),
    ((3, 4), ("points", ((3, 0),))),
    ((0, 4), ("points", ((0, 0),))),
    # Wrong integers.
    ((3, 4), ("box", ((-1, 1, 2), (0, 1, 1)))),
    ((3, 4), ("box", ((0, 0, 1), (0, 1, 1)))),
    ((3, 4), ("box", ((0, 1, 1), (0, -1, 1)))),
    ((3, 4), ("box", ((0, 1, -1), (0, 1, 1)))),
    ((3, 4), ("points", ((-1, 0),))),
    ((3, 4), ("points", ((0, 0), (0, -(10 ** 29))))),
    # Wrong integers in boxes that pick nothing.
    ((3, 4), ("box", ((-1, 1, 0), (0, 1, 1)))),
    ((3, 4), ("box", ((0, 0, 0), (0, 1, 1)))),
    ((3, 4), ("box", ((0, 1, 0), (-1, 1, 1)))),
    ((3, 4), ("box", ((0, 1, 0), (0, 0, 1)))),
    ((3, 4), ("box", ((0, 1, 0), (0, 1, -1)))),
    ((3, 4), ("box", ((0, 1, -1), (0, 1, -1)))),
]


class SelectionTests(unittest.TestCase):
    def test_example(self):
        box = ("box", ((0, 2, 2), (1, 1, 2)))
        self.assertEqual(picked((3, 4), box), [(0, 1), (0, 2), (2, 1), (2, 2)])

    def test_selections_that_fit(self):
        for shape, selection in FITTING:
            with self.subTest(shape=shape, selection=selection):
                self.assertIs(fits(shape, selection), True)
                self.assertIsInstance(picked(shape, selection), list)

    def test_selections_that_do_not_fit(self):
        for shape, selection in NOT_FITTING:
            with self.subTest(shape=shape, selection=selection):
                self.assertIs(fits(shape, selection), False)
                with self.assertRaises(InvalidSelection):
                    picked(shape, selection)

    def test_small_boxes_fit_if_all_picked_indexes_are_there(self):
        ranges = list(itertools.product(range(-1, 4), range(0, 4), range(-1, 4)))
        for size, (start, step, count) in itertools.product(range(4), ranges):
            valid = start >= 0 and step >= 1 and count >= 0
            places = [start + step * number for number in range(count)]
            due = valid and all(place < size for place in places)
            box = ("box", ((start, step, count),))
            self.assertIs(fits((size,), box), due)
            if due:
                self.assertEqual(picked((size,), box), [(place,) for place in places])

    def test_sizes(self):
        self.assertEqual(selection_size(("box", ())), 1)
        self.assertEqual(selection_size(("box", ((0, 2, 5), (1, 1, 3)))), 15)
        self.assertEqual(selection_size(("box", ((0, 1, 0), (1, 1, 3)))), 0)
        self.assertEqual(selection_size(("box", ((0, 1, 10 ** 9),) * 4)), 10 ** 36)
        self.assertEqual(selection_size(("points", ())), 0)
        self.assertEqual(selection_size(("points", ((1, 1), (1, 1), (0, 0)))), 3)

    def test_whole(self):
        self.assertEqual(whole(()), ("box", ()))
        self.assertEqual(whole((3, 0)), ("box", ((0, 1, 3), (0, 1, 0))))
        for shape in [(), (4,), (2, 3), (3, 0, 2), (2, 1, 2, 3)]:
            due = list(itertools.product(*[range(size) for size in shape]))
            self.assertEqual(picked(shape, whole(shape)), due)


class PickedTests(unittest.TestCase):
    def test_boxes_in_row_order(self):
        ranges = ((1, 2, 2), (0, 1, 2), (3, 3, 3), (0, 5, 1))
        places = [[start + step * at for at in range(count)] for start, step, count in ranges]
        due = list(itertools.product(*places))
        self.assertEqual(picked((4, 2, 10, 1), ("box", ranges)), due)

    def test_no_dimensions(self):
        self.assertEqual(picked((), ("box", ())), [()])
        self.assertEqual(picked((), ("points", ((), ()))), [(), ()])

    def test_points_keep_their_order_and_repetitions(self):
        points = ((2, 3), (0, 0), (2, 3), (1, 1), (0, 0))
        self.assertEqual(picked((3, 4), ("points", points)), list(points))

    def test_nothing_is_picked(self):
        self.assertEqual(picked((3, 4), ("points", ())), [])
        self.assertEqual(picked((3, 4), ("box", ((9, 1, 0), (0, 1, 4)))), [])
        # The counts of the other ranges are not gone through.
        great = (10 ** 9,) * 4
        box = ("box", ((0, 1, 10 ** 9), (0, 1, 10 ** 9), (0, 1, 10 ** 9), (5, 1, 0)))
        self.assertEqual(picked(great, box), [])

    def check_too_large(self, shape, selection):
        with self.assertRaises(TooLarge) as caught:
            picked(shape, selection)
        self.assertEqual(caught.exception.limit, 100000)

    def test_boxes_at_the_limit(self):
        self.assertEqual(len(picked((200000,), ("box", ((0, 2, 100000),)))), 100000)
        self.assertEqual(len(picked((1000, 100), whole((1000, 100)))), 100000)
        self.check_too_large((200002,), ("box", ((0, 2, 100001),)))
        self.check_too_large((100001,), whole((100001,)))
        self.check_too_large((10 ** 9,) * 4, whole((10 ** 9,) * 4))

    def test_points_at_the_limit(self):
        self.assertEqual(len(picked((3,), ("points", ((1,),) * 100000))), 100000)
        self.check_too_large((3,), ("points", ((1,),) * 100001))

    def test_not_fitting_comes_before_too_large(self):
        for shape, selection in [
            ((100000,), ("box", ((0, 1, 100001),))),
            ((10 ** 9, 2), ("box", ((0, 1, 10 ** 9), (0, 1, 3)))),
            ((10 ** 9,), ("box", ((0, 1, 10 ** 29),))),
            ((10 ** 9, 10 ** 9), ("box", ((0, 1, 10 ** 9),))),
            ((3,), ("points", ((1,),) * 100000 + ((3,),))),
        ]:
            with self.assertRaises(InvalidSelection):
                picked(shape, selection)


class MeetingTests(unittest.TestCase):
    def check_both_ways(self, first, second, due):
        self.assertEqual(meeting(first, second), due)
        self.assertEqual(meeting(second, first), due)

    def test_meetings(self):
        self.check_both_ways(
            ("box", ((0, 1, 4), (2, 1, 5))),
            ("box", ((3, 1, 9), (0, 1, 3))),
            ("box", ((3, 1, 1), (2, 1, 1))),
        )
        self.check_both_ways(("box", ((0, 1, 9),)), ("box", ((2, 1, 3),)), ("box", ((2, 1, 3),)))
        self.check_both_ways(("box", ()), ("box", ()), ("box", ()))

    def test_no_meetings(self):
        self.check_both_ways(("box", ((0, 1, 3),)), ("box", ((3, 1, 3),)), None)
        self.check_both_ways(("box", ((0, 1, 3), (0, 1, 2))), ("box", ((1, 1, 3), (2, 1, 2))), None)
        self.check_both_ways(("box", ((0, 1, 9),)), ("box", ((4, 1, 0),)), None)
        self.check_both_ways(("box", ((4, 1, 0),)), ("box", ((4, 1, 0),)), None)

    def test_small_meetings_pick_what_both_pick(self):
        sides = [(start, 1, count) for start in range(4) for count in range(4)]
        shape = (7, 7)
        other = (2, 1, 2)
        for one, two in itertools.product(sides, sides):
            first, second = ("box", (one, other)), ("box", (two, (0, 1, 3)))
            inside = set(picked(shape, second))
            due = [index for index in picked(shape, first) if index in inside]
            met = meeting(first, second)
            self.assertEqual(met, meeting(second, first))
            if met is None:
                self.assertEqual(due, [])
            else:
                self.assertEqual(picked(shape, met), due)
                self.assertTrue(all(step == 1 and count >= 1 for _, step, count in met[1]))


if __name__ == "__main__":
    unittest.main()
