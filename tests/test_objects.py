"""Groups, arrays and views as objects (points 34 and 35)."""

import unittest

from tessera.layouts import Layout
from tessera.numbers import write_integers, write_text
from tessera.objects import ArrayObject, Group, View, is_attribute, is_piece, read_object, write_object

LAYOUT = Layout("i2", (2, 3), -5, ("delta", "runs"))
ARRAY = ArrayObject([("n", (1, -1)), ("a", "x y")], (4, 7), LAYOUT, (300, 12))
PIECES = [("a/b", (1, 0), (0, 2), (2, 1)), ("c", (0, 10 ** 20), (1, 0), (1, 1))]
VIEW = View([("b", "")], "u1", (3, 3), 9, PIECES)


def parts_of(thing):
    """All fields of an object, so that two objects can be compared."""
    parts = dict(vars(thing))
    if "layout" in parts:
        parts["layout"] = vars(parts["layout"])
    return thing.__class__, parts


def changed_contents(content):
    """The content with each byte changed, left out, doubled, and with bytes put behind."""
    for at, byte in enumerate(content):
        for other in range(250):
            if other != byte:
                yield content[:at] + [other] + content[at + 1:]
        yield content[:at] + content[at + 1:]
        yield content[:at] + [byte] + content[at:]
    for byte in range(250):
        yield content + [byte]


class FieldTests(unittest.TestCase):
    def test_groups(self):
        self.assertEqual(Group([]).attributes, ())
        self.assertEqual(Group([("b", "x"), ("a", (5,))]).attributes, (("a", (5,)), ("b", "x")))

    def test_arrays(self):
        self.assertEqual(ARRAY.attributes, (("a", "x y"), ("n", (1, -1))))
        self.assertEqual((ARRAY.shape, ARRAY.root), ((4, 7), (300, 12)))
        self.assertTrue(ARRAY.layout == LAYOUT)

    def test_views(self):
        self.assertEqual((VIEW.attributes, VIEW.kind, VIEW.shape, VIEW.fill), ((("b", ""),), "u1", (3, 3), 9))
        self.assertEqual(VIEW.pieces, tuple(PIECES))

    def test_lists_are_not_shared(self):
        attributes, pieces = [("b", "x"), ("a", "y")], list(PIECES)
        view = View(attributes, "u1", (3, 3), 9, pieces)
        self.assertEqual((attributes, pieces), ([("b", "x"), ("a", "y")], PIECES))
        attributes.append(("c", "z"))
        pieces.pop()
        self.assertEqual(view.attributes, (("a", "y"), ("b", "x")))
        self.assertEqual(view.pieces, tuple(PIECES))

    def test_the_order_of_names(self):
        names = ["z", "a", "0", "9a", "aa", "a0"]
        self.assertEqual([name for name, _ in Group([(name, "") for name in names]).attributes], sorted(names))


class ContentTests(unittest.TestCase):
    def test_example(self):
        content = [1, 2, 1, 97, 1, 1, 10, 1, 98, 0, 1, 120]
        self.assertEqual(write_object(Group([("b", "x"), ("a", (5,))])), content)
        self.assertEqual(parts_of(read_object(content)), parts_of(Group([("b", "x"), ("a", (5,))])))

    def test_the_content_of_a_group(self):
        self.assertEqual(write_object(Group([])), [1, 0])

    def test_the_content_of_an_array(self):
        due = [2, 2]
        due += [1, 97, 0, 3, 120, 32, 121] + [1, 110, 1, 2, 2, 1]
        due += [2, 105, 50] + [2, 8, 14] + [2, 4, 6] + [1, 9]
        due += [2] + write_text("delta") + write_text("runs") + [175, 2, 12]
        self.assertEqual(write_object(ARRAY), due)

    def test_the_content_of_a_view(self):
        due = [3, 1, 1, 98, 0, 0] + [2, 117, 49] + [2, 6, 6] + [1, 18]
        due += [2, 3, 97, 47, 98] + [2, 2, 0] + [2, 0, 4] + [2, 4, 2]
        due += [1, 99] + write_integers([0, 10 ** 20]) + [2, 2, 0] + [2, 2, 2]
        self.assertEqual(write_object(VIEW), due)

    def test_without_dimensions(self):
        array = ArrayObject([], (), Layout("u1", (), 0, ()), (0, 0))
        self.assertEqual(write_object(array), [2, 0, 2, 117, 49, 0, 0, 1, 0, 0, 0, 0])
        view = View([], "u1", (), 0, [("a", (), (), ())])
        self.assertEqual(write_object(view), [3, 0, 2, 117, 49, 0, 1, 0, 1, 1, 97, 0, 0, 0])

    def test_objects_come_back(self):
        great = [(chr(97 + number), "t" * 200 if number % 2 else tuple([10 ** 30 - 1] * 50)) for number in range(20)]
        things = [
            Group([]), Group(great), ARRAY, VIEW,
            ArrayObject(great, (), Layout("u4", (), 2 ** 32 - 1, ()), (0, 0)),
            ArrayObject([], (10 ** 9, 0, 5, 1), Layout("i4", (1, 4096, 1, 1), -2 ** 31, ("zeros",) * 6), (10 ** 15, 3)),
            View(great, "i1", (0,), -128, []), View([], "u2", (20,), 65535, [("a", (0,), (at,), (1,)) for at in range(10)]),
        ]
        for thing in things:
            content = write_object(thing)
            self.assertLessEqual(max(content), 249)
            self.assertEqual(parts_of(read_object(content)), parts_of(thing))
            self.assertEqual(write_object(read_object(content)), content)

    def test_changed_contents(self):
        small = ArrayObject([("a", (5,))], (4,), Layout("u1", (2,), 0, ("runs",)), (300, 12))
        for thing in [Group([("b", "x"), ("a", (5,))]), small, ARRAY, VIEW]:
            for content in changed_contents(write_object(thing)):
                found = read_object(content)
                if found is not None:
                    self.assertEqual(write_object(found), content)
                    self.assertTrue(all(is_attribute(name, value) for name, value in found.attributes))
                    if isinstance(found, View):
                        self.assertTrue(all(is_piece(piece, found.shape) for piece in found.pieces))

    def test_contents_of_nothing(self):
        for content in ([], [0, 0], [4, 0], [1], [2, 0], [3, 0], [1, 0, 0], [128, 0, 0]):
            self.assertIsNone(read_object(content))

    def test_shortened_contents(self):
        for thing in [Group([("a", "x")]), ARRAY, VIEW]:
            content = write_object(thing)
            for count in range(len(content)):
                self.assertIsNone(read_object(content[:count]))

    def test_parts_that_are_refused(self):
        layout = Layout("i2", (2, 3), -5, ())
        names = [(chr(97 + number), "") for number in range(21)]
        bad = [
            Group(names), Group([("A", "")]), Group([("", "")]), Group([("a" * 13, "")]), Group([("a", "t" * 201)]),
            Group([("a", (1,) * 51)]), Group([("a", (10 ** 30,))]), Group([("a", (-10 ** 30,))]),
            ArrayObject(names, (4, 7), layout, (0, 0)), View(names, "u1", (), 0, []),
            ArrayObject([], (4, 7, 1), layout, (0, 0)), ArrayObject([], (4, -1), layout, (0, 0)),
            ArrayObject([], (4, 10 ** 9 + 1), layout, (0, 0)), ArrayObject([], (1,) * 5, Layout("u1", (1,) * 5, 0, ()), (0, 0)),
            ArrayObject([], (4,), Layout("i8", (2,), 0, ()), (0, 0)), ArrayObject([], (4,), Layout("", (2,), 0, ()), (0, 0)),
            ArrayObject([], (4,), Layout("u1", (2,), 256, ()), (0, 0)), ArrayObject([], (4,), Layout("u1", (2,), -1, ()), (0, 0)),
            ArrayObject([], (4,), Layout("u1", (0,), 0, ()), (0, 0)), ArrayObject([], (4,), Layout("u1", (4097,), 0, ()), (0, 0)),
            ArrayObject([], (4,), Layout("u1", (2,), 0, ("delta",) * 7), (0, 0)),
            ArrayObject([], (4,), Layout("u1", (2,), 0, ("other",)), (0, 0)),
            View([], "i8", (3,), 0, []), View([], "u1", (-1,), 0, []), View([], "u1", (1,) * 5, 0, []),
            View([], "u1", (3,), 256, []), View([], "u1", (20,), 0, [("a", (0,), (at,), (1,)) for at in range(11)]),
            View([], "u1", (3,), 0, [("", (0,), (0,), (1,))]), View([], "u1", (3,), 0, [("A", (0,), (0,), (1,))]),
            View([], "u1", (3,), 0, [("a", (0,), (2,), (2,))]), View([], "u1", (3,), 0, [("a", (0, 0), (0,), (1,))]),
        ]
        for thing in bad:
            self.assertIsNone(read_object(write_object(thing)))

    def test_attributes_out_of_order_or_twice(self):
        first, second = [1, 97, 0, 0], [1, 98, 0, 0]
        self.assertIsNotNone(read_object([1, 2] + first + second))
        self.assertIsNone(read_object([1, 2] + second + first))
        self.assertIsNone(read_object([1, 2] + first + first))
        self.assertIsNone(read_object([1, 2] + first + [1, 97, 1, 0]))
        self.assertIsNone(read_object([1, 1, 1, 97, 2, 0]))

    def test_fill_values_that_are_not_one(self):
        start, end = [2, 0, 2, 117, 49, 0, 0], [0, 0, 0]
        self.assertIsNotNone(read_object(start + [1, 2] + end))
        self.assertIsNone(read_object(start + [0] + end))
        self.assertIsNone(read_object(start + [2, 2, 2] + end))
        self.assertIsNotNone(read_object([3, 0, 2, 117, 49, 0, 1, 2, 0]))
        self.assertIsNone(read_object([3, 0, 2, 117, 49, 0, 0, 0]))
        self.assertIsNone(read_object([3, 0, 2, 117, 49, 0, 2, 2, 2, 0]))

    def test_reading_changes_nothing(self):
        content = write_object(VIEW)
        kept = list(content)
        read_object(content)
        self.assertEqual(content, kept)


class AttributeTests(unittest.TestCase):
    def test_texts(self):
        every = "".join(chr(code) for code in range(32, 127) if code != 37)
        for value in ["", "x", " ", "t" * 200, every, every + every]:
            self.assertIs(is_attribute("name", value), True)
        for value in ["t" * 201, "a\nb", "100%", "\t", "\x7f", "\xe4"]:
            self.assertIs(is_attribute("name", value), False)

    def test_integers(self):
        for value in [(), (0,), (-1, 1), (1,) * 50, (10 ** 30 - 1, -10 ** 30 + 1)]:
            self.assertIs(is_attribute("name", value), True)
        for value in [(1,) * 51, (10 ** 30,), (-10 ** 30,), (1, 2, 10 ** 30)]:
            self.assertIs(is_attribute("name", value), False)

    def test_names(self):
        for name in ["", "A", "a" * 13, "a b", "a/b"]:
            for value in ["", (), "x", (1,)]:
                self.assertIs(is_attribute(name, value), False)
        self.assertIs(is_attribute("a" * 12, ""), True)


class PieceTests(unittest.TestCase):
    def test_at_the_edges(self):
        shape = (3, 5)
        for piece in [
            ("a", (0, 0), (0, 0), (3, 5)), ("a", (9, 10 ** 20), (2, 4), (1, 1)), ("a/b", (0, 0), (0, 4), (3, 1)),
        ]:
            self.assertIs(is_piece(piece, shape), True)
        self.assertIs(is_piece(("a", (), (), ()), ()), True)

    def test_beyond_the_edges(self):
        for target, counts in [
            ((0, 0), (4, 5)), ((0, 0), (3, 6)), ((3, 0), (1, 1)), ((0, 5), (1, 1)), ((1, 1), (3, 1)), ((0, 0), (0, 1)),
            ((0, 0), (1, 0)), ((0, 0), (1, -1)), ((-1, 0), (1, 1)), ((0, -1), (1, 1)),
        ]:
            self.assertIs(is_piece(("a", (0, 0), target, counts), (3, 5)), False)
        self.assertIs(is_piece(("a", (0,), (0,), (1,)), (0,)), False)

    def test_wrong_sources_paths_and_dimensions(self):
        good = ("a", (0, 0), (0, 0), (1, 1))
        self.assertIs(is_piece(good, (3, 5)), True)
        for at, part in [
            (0, ""), (0, "A"), (0, "a/"), (0, "a/b/c/d/e/f/g"), (1, (-1, 0)), (1, (0, -1)), (1, (0,)), (2, (0,)), (3, (1,)),
            (1, (0, 0, 0)), (2, (0, 0, 0)), (3, (1, 1, 1)), (1, ()),
        ]:
            self.assertIs(is_piece(good[:at] + (part,) + good[at + 1:], (3, 5)), False)
        self.assertIs(is_piece(good, (3,)), False)
        self.assertIs(is_piece(good, ()), False)


if __name__ == "__main__":
    unittest.main()
