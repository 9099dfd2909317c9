"""Evaluating expressions and storing their values (points 57 and 58)."""

import random
import unittest

from tessera.disks import Disk
from tessera.errors import (
    InvalidExpression, InvalidPath, InvalidSelection, InvalidShape, InvalidValue, NotAnArray, NotFound, TooLarge,
)
from tessera.evaluating import evaluate, expression_shape, store_expression
from tessera.expressions import depth
from tessera.opening import new_store, open_store
from tessera.selections import whole

from tests.plain_store import indexes_of, picked_of
from tests.test_damage import Example
from tests.test_expressions import tower
from tests.tools import damaged_disk, error_of, outcome, snapshot

A, B, V = ("path", "a"), ("path", "b"), ("path", "v")
ONE = ("number", 1)
BINARY = ("add", "sub", "mul", "min", "max", "less")


def number(value):
    return ("number", value)


def reckoned(store, expression, index):
    """The value at an index, reckoned from what reading gives at single indexes."""
    name, *parts = expression
    if name == "path":
        return store.read(parts[0], ("points", (index,)))[0]
    if name == "number":
        return parts[0]
    if name == "shift":
        shape = store.shape_of("a")
        moved = tuple([place + by for place, by in zip(index, parts[1])])
        if not all(0 <= place < size for place, size in zip(moved, shape)):
            return 0
        return reckoned(store, parts[0], moved)
    values = [reckoned(store, part, index) for part in parts]
    return {
        "add": lambda x, y: x + y, "sub": lambda x, y: x - y, "mul": lambda x, y: x * y, "min": min, "max": max,
        "less": lambda x, y: int(x < y), "pick": lambda test, x, y: x if test else y,
    }[name](*values)


def example_store(shape, seed=0):
    """Arrays "a" and "b" and a view "v" of this shape, and other things."""
    choose = random.Random(seed)
    store = new_store(Disk([]))
    ones = tuple([2 for _ in shape])
    store.make_array("a", "i2", shape, chunks=ones, fill=3)
    store.make_array("b", "i4", shape, chunks=tuple([3 for _ in shape]), fill=-1, filters=("delta",))
    for path in ("a", "b"):
        some = [index for index in indexes_of(shape) if choose.random() < 0.8]
        store.write(path, ("points", tuple(some)), [choose.randrange(-9, 9) for _ in some])
    pieces = [("a", tuple([1 for _ in shape]), tuple([0 for _ in shape]), tuple([size - 1 for size in shape]))]
    store.make_view("v", "i1", shape, pieces=pieces if min(shape + (2,)) > 1 else [], fill=5)
    store.make_group("g")
    store.make_array("other", "u1", shape + (1,) if len(shape) < 4 else (1,), chunks=(1,) * (len(shape) + 1 if len(shape) < 4 else 1))
    return store


def random_expression(choose, dimensions, levels):
    if levels == 1 or choose.random() < 0.2:
        return choose.choice([A, B, V, A, number(choose.randrange(-5, 6)), number(10 ** 25)])
    name = choose.choice(BINARY + ("pick", "shift", "shift", "shift"))
    if name == "shift":
        offsets = tuple([choose.randrange(-2, 3) for _ in range(dimensions)])
        return (name, random_expression(choose, dimensions, levels - 1), offsets)
    count = 3 if name == "pick" else 2
    return (name,) + tuple([random_expression(choose, dimensions, levels - 1) for _ in range(count)])


def selections_of(choose, shape):
    indexes = indexes_of(shape)
    found = [whole(shape), ("points", ())]
    if indexes:
        found.append(("points", tuple([choose.choice(indexes) for _ in range(7)])))
        found.append(("points", (indexes[-1], indexes[0], indexes[-1])))
    found.append(("box", tuple([(size // 2, 1, size - size // 2) for size in shape])))
    found.append(("box", tuple([(0, 2, (size + 1) // 2) for size in shape])))
    return found


class ExampleTests(unittest.TestCase):
    def test_the_example(self):
        store = new_store(Disk([]))
        store.make_array("a", "u1", (3,), chunks=(3,))
        store.write("a", ("box", ((0, 1, 3),)), [4, 5, 6])
        expression = ("sub", A, ("shift", A, (-1,)))
        self.assertEqual(evaluate(store, expression, ("box", ((0, 1, 3),))), [4, 1, 1])


class FormTests(unittest.TestCase):
    def setUp(self):
        self.store = new_store(Disk([]))
        for path, values in [("a", [1, -2, 3, 0]), ("b", [2, -3, 3, -7])]:
            self.store.make_array(path, "i2", (4,), chunks=(2,))
            self.store.write(path, whole((4,)), values)

    def gives(self, expression, values):
        self.assertEqual(evaluate(self.store, expression, whole((4,))), values)

    def test_paths_and_numbers(self):
        self.gives(A, [1, -2, 3, 0])
        self.gives(("add", A, ("sub", number(5), A)), [5] * 4)

    def test_two_parts(self):
        self.gives(("add", A, B), [3, -5, 6, -7])
        self.gives(("sub", A, B), [-1, 1, 0, 7])
        self.gives(("sub", B, A), [1, -1, 0, -7])
        self.gives(("mul", A, B), [2, 6, 9, 0])
        self.gives(("min", A, B), [1, -3, 3, -7])
        self.gives(("max", A, B), [2, -2, 3, 0])
        self.gives(("less", A, B), [1, 0, 0, 0])
        self.gives(("less", B, A), [0, 1, 0, 1])

    def test_picking(self):
        self.gives(("pick", A, B, number(9)), [2, -3, 3, 9])
        self.gives(("pick", ("less", A, number(1)), number(7), A), [1, 7, 3, 7])
        self.gives(("pick", number(0), A, B), [2, -3, 3, -7])
        self.gives(("pick", number(-1), A, B), [1, -2, 3, 0])

    def test_shifts_over_the_edges(self):
        self.gives(("shift", A, (0,)), [1, -2, 3, 0])
        self.gives(("shift", A, (1,)), [-2, 3, 0, 0])
        self.gives(("shift", A, (-1,)), [0, 1, -2, 3])
        self.gives(("shift", A, (4,)), [0] * 4)
        self.gives(("shift", A, (-10 ** 29,)), [0] * 4)
        self.gives(("add", A, ("shift", number(5), (2,))), [6, 3, 3, 0])
        self.gives(("shift", ("add", A, number(10)), (-3,)), [0, 0, 0, 11])

    def test_shifts_in_shifts(self):
        # What is shifted out does not come back.
        self.gives(("shift", ("shift", A, (1,)), (-1,)), [0, -2, 3, 0])
        self.gives(("shift", ("shift", A, (-1,)), (1,)), [1, -2, 3, 0])
        self.gives(("shift", ("shift", ("add", A, number(1)), (-1,)), (1,)), [2, -1, 4, 0])
        self.gives(("shift", ("sub", ("shift", A, (2,)), B), (-1,)), [0, 1, 3, -3])

    def test_greater_and_greater_integers(self):
        expression = ("mul", A, number(10 ** 30 - 1))
        due = [value * (10 ** 30 - 1) for value in (1, -2, 3, 0)]
        for _ in range(4):
            self.gives(expression, due)
            expression, due = ("mul", expression, expression), [value * value for value in due]
        self.gives(("sub", expression, expression), [0] * 4)
        self.gives(("less", expression, ("add", expression, number(1))), [1] * 4)

    def test_twelve_levels(self):
        for name in ("add", "less", "min", "pick"):
            self.assertEqual(depth(tower(12, name)), 12)
            due = [reckoned(self.store, tower(12, name), (at,)) for at in range(4)]
            self.gives(tower(12, name), due)
        self.gives(tower(12, "shift"), [0] * 4)

    def test_the_shape(self):
        for expression in (A, ("add", A, B), ("shift", number(1), (2,)), ("mul", ("shift", A, (1,)), number(2))):
            error = error_of(lambda: expression_shape(self.store, expression))
            if expression[0] == "shift":
                self.assertEqual(error, (InvalidExpression, {}))
            else:
                self.assertEqual(expression_shape(self.store, expression), (4,))


class ReckoningTests(unittest.TestCase):
    def test_index_by_index(self):
        for seed, shape in enumerate([(), (5,), (1,), (0,), (3, 4), (2, 0), (2, 3, 2), (2, 2, 3, 2), (1, 1, 1, 1)] * 3):
            choose = random.Random(seed)
            store = example_store(shape, seed)
            before = snapshot(store)
            for _ in range(6):
                expression = ("add", choose.choice([A, B, V]), random_expression(choose, len(shape), choose.randrange(1, 7)))
                self.assertEqual(expression_shape(store, expression), shape)
                told = repr(expression)
                for selection in selections_of(choose, shape):
                    due = [reckoned(store, expression, index) for index in picked_of(shape, selection)]
                    self.assertEqual(evaluate(store, expression, selection), due)
                self.assertEqual(repr(expression), told)
            self.assertEqual(snapshot(store), before)

    def test_views(self):
        store = example_store((3, 4))
        values = store.read("v", whole((3, 4)))
        self.assertEqual(evaluate(store, V, whole((3, 4))), values)
        moved = evaluate(store, ("shift", V, (1, -1)), whole((3, 4)))
        self.assertEqual(moved[1:4] + moved[5:8], values[4:7] + values[8:11])

    def test_many_indexes(self):
        store = new_store(Disk([]))
        store.make_array("a", "u4", (100000,), chunks=(4096,))
        store.write("a", whole((100000,)), list(range(100000)))
        values = evaluate(store, ("sub", A, ("shift", A, (-1,))), whole((100000,)))
        self.assertEqual(values, [0] + [1] * 99999)

    def test_the_present_batch(self):
        store = example_store((3,))
        store.commit()
        store.write("a", whole((3,)), [7, 8, 9])
        self.assertEqual(evaluate(store, ("mul", A, number(2)), whole((3,))), [14, 16, 18])
        store.discard()
        self.assertEqual(evaluate(store, A, whole((3,))), store.read("a", whole((3,))))


class ErrorTests(unittest.TestCase):
    def setUp(self):
        self.store = example_store((3, 4))
        self.store.make_array("c", "i2", (3, 5), chunks=(3, 5))
        self.store.make_array("d", "i2", (4, 3), chunks=(3, 3))
        self.store.make_view("w", "i2", (2, 2), pieces=[])
        self.store.make_array("big", "u1", (400, 400), chunks=(64, 64))
        self.before = [(path, self.store.kind_at(path)) for path in self.store.paths()]
        self.values = [self.store.read(path, whole((3, 4))) for path in ("a", "b", "v")]

    def refused(self, action, error, **fields):
        self.assertEqual(error_of(action), (error, fields))
        self.assertEqual([(path, self.store.kind_at(path)) for path in self.store.paths()], self.before)
        self.assertEqual([self.store.read(path, whole((3, 4))) for path in ("a", "b", "v")], self.values)

    def wrong_expressions(self):
        """Expressions that have no shape, with the error."""
        wrong = ("path", "A")
        return [
            (number(5), InvalidExpression, {}), (("add", number(1), number(2)), InvalidExpression, {}),
            (("shift", number(1), (0, 0)), InvalidExpression, {}), (wrong, InvalidExpression, {}),
            (("add", A, wrong), InvalidExpression, {}), (("plus", A, B), InvalidExpression, {}),
            (("add", A, number(10 ** 30)), InvalidExpression, {}), (tower(13), InvalidExpression, {}),
            (("add", ("path", "none"), wrong), InvalidExpression, {}), (("add", ("path", "g"), number(10 ** 30)), InvalidExpression, {}),
            (("path", "none"), NotFound, {"path": "none"}), (("path", "g"), NotAnArray, {"path": "g"}),
            (("path", ""), NotAnArray, {"path": ""}), (("add", ("path", "none"), ("path", "g")), NotAnArray, {"path": "g"}),
            (("add", ("path", "none"), ("path", "")), NotAnArray, {"path": ""}),
            (("add", ("path", "z"), ("path", "none")), NotFound, {"path": "none"}),
            (("add", ("path", "none"), ("path", "c")), NotFound, {"path": "none"}),
            (("add", ("path", "none"), ("shift", A, (1,))), NotFound, {"path": "none"}),
            (("add", A, ("path", "c")), InvalidShape, {}), (("add", A, ("path", "d")), InvalidShape, {}),
            (("add", A, ("path", "other")), InvalidShape, {}), (("mul", A, ("path", "big")), InvalidShape, {}),
            (("shift", A, (1,)), InvalidShape, {}), (("shift", A, (1, 1, 1)), InvalidShape, {}), (("shift", A, ()), InvalidShape, {}),
            (("add", A, ("shift", number(1), (1,))), InvalidShape, {}),
            (("pick", A, A, ("mul", B, ("shift", ("shift", A, (1,)), (1, 1)))), InvalidShape, {}),
        ]

    def test_errors_of_the_shape(self):
        for expression, error, fields in self.wrong_expressions():
            self.refused(lambda: expression_shape(self.store, expression), error, **fields)

    def test_errors_of_evaluating(self):
        for expression, error, fields in self.wrong_expressions():
            for selection in (whole((3, 4)), whole((9, 9)), whole((3,))):
                self.refused(lambda: evaluate(self.store, expression, selection), error, **fields)
        many = ("points", ((0, 0),) * 100001)
        for expression in (A, ("add", A, ("shift", B, (1, 1))), ("mul", number(0), V), ("shift", A, (9, 9))):
            for selection in (
                whole((3, 5)), whole((3,)), ("points", ((3, 0),)), ("points", ((0, -1),)), ("box", ((0, 0, 1), (0, 1, 1))),
                ("box", ((-1, 1, 0), (0, 1, 1))), ("points", ((0, 0),) * 100001 + ((3, 4),)),
            ):
                self.refused(lambda: evaluate(self.store, expression, selection), InvalidSelection)
            self.refused(lambda: evaluate(self.store, expression, many), TooLarge, limit=100000)
        self.refused(lambda: evaluate(self.store, ("path", "big"), whole((400, 400))), TooLarge, limit=100000)

    def test_errors_of_storing(self):
        store, all_of_it = self.store, whole((3, 4))
        for expression, error, fields in self.wrong_expressions():
            for path in ("a", "none", "A", "g"):
                self.refused(lambda: store_expression(store, path, all_of_it, expression), error, **fields)
        for path in ("a", "none", "A", "g", "c"):
            self.refused(lambda: store_expression(store, path, whole((3, 5)), A), InvalidSelection)
        great = ("mul", A, number(10 ** 20))
        for path, error in [("A", InvalidPath), ("a/", InvalidPath), ("none", NotFound), ("g", NotAnArray), ("", NotAnArray), ("v", NotAnArray), ("w", NotAnArray)]:
            for expression in (A, great):
                self.refused(lambda: store_expression(store, path, all_of_it, expression), error, path=path)
        for path in ("c", "d", "other", "big"):
            for expression in (A, great):
                self.refused(lambda: store_expression(store, path, all_of_it, expression), InvalidShape)
        for path, value in [("a", 2 ** 15), ("a", -2 ** 15 - 1), ("b", 2 ** 31), ("b", -10 ** 29)]:
            expression = ("add", ("mul", A, number(0)), number(value))
            self.refused(lambda: store_expression(store, path, all_of_it, expression), InvalidValue, value=value)

    def test_values_of_many_digits_are_refused(self):
        # Python itself refuses to write integers of more than 4300 digits.
        for base in (10 ** 29, 1 - 10 ** 30):
            power, value = number(base), base
            for _ in range(9):
                power, value = ("mul", power, power), value * value
                for sign in (1, -1):
                    signed = ("mul", number(sign), power)
                    self.refuses_great(("add", ("mul", A, number(0)), signed), sign * value)
                    # Only the last row has great values, the other ones have sevens.
                    self.refuses_great(("pick", ("shift", ("add", ONE, ("mul", A, number(0))), (1, 0)), number(7), signed), sign * value)

    def refuses_great(self, expression, value):
        self.assertEqual(evaluate(self.store, expression, ("points", ((2, 1),))), [value])
        for path in ("a", "b"):
            for selection in (whole((3, 4)), ("points", ((2, 1), (0, 0))), ("points", ((0, 0), (2, 1)))):
                self.refused(lambda: store_expression(self.store, path, selection, expression), InvalidValue, value=value)

    def test_values_that_are_small_at_last(self):
        power = number(10 ** 30 - 1)
        for _ in range(9):
            power = ("mul", power, power)
        for expression, value in [
            (("sub", power, power), 0), (("less", number(1), power), 1), (("min", power, number(5)), 5), (("pick", power, number(6), ONE), 6),
        ]:
            expression = ("add", ("mul", A, number(0)), expression)
            self.assertIsNone(store_expression(self.store, "a", whole((3, 4)), expression))
            self.assertEqual(self.store.read("a", whole((3, 4))), [value] * 12)

    def test_the_first_value_that_is_refused(self):
        store = self.store
        expression = ("add", ("mul", A, number(0)), ("pick", ("shift", number(1), (1, 0)), number(1), number(10 ** 9)))
        self.refused(lambda: store_expression(store, "a", whole((3, 4)), expression), InvalidValue, value=10 ** 9)
        # Only what is picked counts.
        self.assertIsNone(store_expression(store, "a", ("box", ((0, 1, 2), (0, 1, 4))), expression))
        self.assertEqual(store.read("a", ("box", ((0, 1, 2), (0, 1, 4)))), [1] * 8)


class StoringTests(unittest.TestCase):
    def test_through_a_selection(self):
        store = example_store((3, 4))
        store.write("a", whole((3, 4)), list(range(12)))
        before = store.read("b", whole((3, 4)))
        self.assertIsNone(store_expression(store, "b", ("box", ((0, 2, 2), (1, 1, 2))), ("mul", A, number(100))))
        due = list(before)
        due[1], due[2], due[9], due[10] = 100, 200, 900, 1000
        self.assertEqual(store.read("b", whole((3, 4))), due)

    def test_an_array_that_occurs_itself(self):
        store = new_store(Disk([]))
        store.make_array("a", "i2", (6,), chunks=(2,))
        store.write("a", whole((6,)), [1, 2, 3, 4, 5, 6])
        store_expression(store, "a", whole((6,)), ("add", A, ("shift", A, (-1,))))
        self.assertEqual(store.read("a", whole((6,))), [1, 3, 5, 7, 9, 11])
        store_expression(store, "a", ("points", ((5,), (0,), (5,))), ("sub", ("shift", A, (-1,)), ("shift", A, (1,))))
        self.assertEqual(store.read("a", whole((6,))), [-3, 3, 5, 7, 9, 9])

    def test_through_a_view_of_itself(self):
        store = new_store(Disk([]))
        store.make_array("a", "i2", (4,), chunks=(2,))
        store.write("a", whole((4,)), [1, 2, 3, 4])
        store.make_view("v", "i2", (4,), pieces=[("a", (0,), (1,), (3,))], fill=50)
        store_expression(store, "a", whole((4,)), V)
        self.assertEqual(store.read("a", whole((4,))), [50, 1, 2, 3])

    def test_against_reading_first(self):
        for seed, shape in enumerate([(), (5,), (0,), (3, 4), (2, 3, 2), (2, 2, 3, 2)] * 3):
            choose = random.Random(1000 + seed)
            store = example_store(shape, seed)
            for _ in range(5):
                inner = random_expression(choose, len(shape), 4)
                expression = ("max", number(-100), ("min", number(100), ("add", choose.choice([A, B, V]), inner)))
                for selection in selections_of(choose, shape):
                    values = store.read("b", whole(shape))
                    ranks = {index: rank for rank, index in enumerate(indexes_of(shape))}
                    for index in picked_of(shape, selection):
                        values[ranks[index]] = reckoned(store, expression, index)
                    store_expression(store, "b", selection, expression)
                    self.assertEqual(store.read("b", whole(shape)), values)

    def test_kept_by_a_commit(self):
        disk = Disk([])
        store = new_store(disk)
        store.make_array("a", "u1", (2,), chunks=(2,), fill=4)
        store_expression(store, "a", whole((2,)), ("add", A, number(1)))
        store.commit()
        store_expression(store, "a", whole((2,)), ("add", A, number(1)))
        self.assertEqual(open_store(disk.copied()).read("a", whole((2,))), [5, 5])
        store.discard()
        self.assertEqual(store.read("a", whole((2,))), [5, 5])


class DamageTests(unittest.TestCase):
    def setUp(self):
        self.example = Example()
        self.expression = ("sub", ("path", "g/a"), ("shift", ("path", "c/g/a"), (-2,)))
        self.selection = ("box", ((5, 1, 2),))

    def needed(self):
        needs = self.example.needs
        return needs.read("g/a", self.selection) | needs.read("c/g/a", ("box", ((3, 1, 2),)))

    def test_reading(self):
        for pointer in self.example.pointers:
            store = open_store(damaged_disk(self.example.disk, pointer))
            got = outcome(lambda: evaluate(store, self.expression, self.selection))
            self.assertEqual(got, ("damaged", pointer) if pointer in self.needed() else ("gives", [-494, -593]))

    def test_storing(self):
        needs = self.example.needs
        needed = self.needed() | needs.read("c/g/a", self.selection)
        for pointer in self.example.pointers:
            store = open_store(damaged_disk(self.example.disk, pointer))
            before = self.example.answers(store)
            got = outcome(lambda: store_expression(store, "c/g/a", self.selection, self.expression))
            self.assertEqual(got, ("damaged", pointer) if pointer in needed else ("gives", None))
            if pointer in needed:
                self.assertEqual(self.example.answers(store), before)
            else:
                self.assertEqual(store.read("c/g/a", self.selection), [-494, -593])


if __name__ == "__main__":
    unittest.main()
