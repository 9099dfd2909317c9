"""Reading, writing and resizing chunked arrays (points 30 and 31)."""

import random
import unittest

from tessera.chunks import load_chunk
from tessera.errors import InvalidSelection, InvalidValue, TooLarge, WrongCount
from tessera.kinds import KINDS, greatest, least
from tessera.layouts import Layout, grids_of
from tessera.logs import Log
from tessera.records import NOWHERE
from tessera.selections import picked, whole
from tessera.shapes import indexes_in
from tessera.slabs import read_slab, resize_slabs, write_slab
from tessera.trees import entries, find

from tests.tools import damaged_disk, new_log, nodes_of, outcome, sealed_log, way_down

CHAINS = [(), ("delta", "runs"), ("planes", "delta", "zeros"), ("zeros", "runs", "runs")]


class SpyLog(Log):
    """A log that notes which chunks are read and written."""

    def __init__(self, disk):
        super().__init__(disk)
        self.read, self.written = [], []

    def fetch(self, kind, pointer):
        if kind == 3:
            self.read.append(pointer)
        return super().fetch(kind, pointer)

    def put(self, kind, content):
        pointer = super().put(kind, content)
        if kind == 3:
            self.written.append(pointer)
        return pointer


class Array:
    """A chunked array beside a plain table of its values."""

    def __init__(self, shape, layout):
        self.log, self.root, self.shape, self.layout = new_log(), NOWHERE, shape, layout
        self.table = {index: layout.fill for index in indexes_in(shape)}

    def read(self, selection):
        return read_slab(self.log, self.layout, self.root, self.shape, selection)

    def write(self, selection, values):
        self.root = write_slab(self.log, self.layout, self.root, self.shape, selection, values)
        for index, value in zip(picked(self.shape, selection), values):
            self.table[index] = value

    def resize(self, shape):
        self.root = resize_slabs(self.log, self.layout, self.root, self.shape, shape)
        self.shape = shape
        self.table = {index: self.table.get(index, self.layout.fill) for index in indexes_in(shape)}

    def is_right(self):
        due = [self.table[index] for index in indexes_in(self.shape)]
        return self.read(whole(self.shape)) == due and self.outside_is_fill()

    def outside_is_fill(self):
        """Every chunk has an index in the shape, and the fill value outside of it."""
        for grid, _ in entries(self.log, self.root):
            inside = 0
            values = load_chunk(self.log, self.layout, self.root, grid)
            for place, value in zip(indexes_in(self.layout.chunk_shape), values):
                index = tuple([a * size + b for a, size, b in zip(grid, self.layout.chunk_shape, place)])
                if index in self.table:
                    inside += 1
                elif value != self.layout.fill:
                    return False
            if inside == 0:
                return False
        return True


def random_selection(choose, shape):
    indexes = list(indexes_in(shape))
    if choose.random() < 0.4:
        count = choose.randrange(6) if indexes else 0
        return "points", tuple([choose.choice(indexes) for _ in range(count)])
    ranges = []
    for size in shape:
        start, step = choose.randrange(size + 1), choose.randrange(1, 4)
        most = len(range(start, size, step))
        ranges.append((start, step, choose.randrange(most + 1)))
    return "box", tuple(ranges)


def line(*, count=40, layout=None):
    """A sealed array of one dimension whose values are 1, 2 and so on."""
    array = Array((count,), layout or Layout("i2", (3,), -5, ("delta", "runs")))
    array.write(whole((count,)), list(range(1, count + 1)))
    array.log = sealed_log(array.log, array.root)
    return array


class ReadAndWriteTests(unittest.TestCase):
    def test_against_a_plain_table(self):
        choose = random.Random(3)
        for trial in range(150):
            dimensions = trial % 5
            shape = tuple([choose.randrange(7) for _ in range(dimensions)])
            chunk_shape = tuple([choose.randrange(1, 5) for _ in range(dimensions)])
            kind = choose.choice(KINDS)
            layout = Layout(kind, chunk_shape, choose.choice([0, 7, greatest(kind)]), choose.choice(CHAINS))
            array = Array(shape, layout)
            for _ in range(6):
                selection = random_selection(choose, array.shape)
                values = [choose.randint(least(kind), greatest(kind)) for _ in picked(array.shape, selection)]
                kept = list(values)
                array.write(selection, values)
                self.assertEqual(values, kept)
                self.assertTrue(array.is_right())
                selection = random_selection(choose, array.shape)
                due = [array.table[index] for index in picked(array.shape, selection)]
                self.assertEqual(array.read(selection), due)
                if choose.random() < 0.6:
                    array.resize(tuple([choose.randrange(7) for _ in shape]))
                    self.assertTrue(array.is_right())

    def test_repeated_points(self):
        array = Array((2, 2), Layout("u1", (2, 1), 0, ()))
        array.write(("points", ((1, 1), (0, 1), (1, 1))), [5, 6, 7])
        self.assertEqual(array.read(whole((2, 2))), [0, 6, 0, 7])
        self.assertEqual(array.read(("points", ((1, 1), (0, 0), (1, 1)))), [7, 0, 7])

    def test_without_dimensions(self):
        array = Array((), Layout("i1", (), -1, ("runs",)))
        self.assertEqual(array.read(whole(())), [-1])
        array.write(whole(()), [5])
        self.assertEqual(array.read(("points", ((), ()))), [5, 5])
        self.assertEqual([key for key, _ in entries(array.log, array.root)], [()])

    def test_great_shapes(self):
        log, layout = new_log(), Layout("u1", (64, 64), 3, ())
        shape, far = (10 ** 9, 10 ** 9), (10 ** 9 - 1, 10 ** 9 - 1)
        root = write_slab(log, layout, NOWHERE, shape, ("points", (far, (0, 0))), [8, 9])
        self.assertEqual(read_slab(log, layout, root, shape, ("points", (far, (5, 5), (0, 0)))), [8, 3, 9])
        self.assertEqual(len(list(entries(log, root))), 2)
        root = resize_slabs(log, layout, root, shape, (10, 10 ** 9))
        self.assertEqual([grid for grid, _ in entries(log, root)], [(0, 0)])

    def test_as_many_as_are_allowed(self):
        array = Array((0,), Layout("u1", (4096,), 3, ("runs",)))
        array.shape = (100001,)
        array.write(("box", ((1, 1, 100000),)), [6] * 100000)
        self.assertEqual(array.read(("box", ((0, 1, 100000),))), [3] + [6] * 99999)

    def test_writing_nothing(self):
        array = line()
        for selection in [("points", ()), ("box", ((50, 1, 0),))]:
            self.assertEqual(write_slab(array.log, array.layout, array.root, array.shape, selection, []), array.root)
            self.assertEqual(array.read(selection), [])

    def test_returned_lists_are_new(self):
        array = line()
        found = array.read(whole((40,)))
        found[3] = 99
        self.assertTrue(array.is_right())


class ErrorTests(unittest.TestCase):
    def check(self, error, selection, values, **fields):
        array = line()
        array.log.put(3, [1])
        with self.assertRaises(error) as caught:
            write_slab(array.log, array.layout, array.root, array.shape, selection, values)
        self.assertIs(caught.exception.__class__, error)
        for name, value in fields.items():
            self.assertEqual(getattr(caught.exception, name), value)
        self.assertEqual(array.log.pending, 4)
        self.assertTrue(array.is_right())

    def test_what_picked_raises_comes_first(self):
        bad = [10 ** 6]
        for selection in [("box", ((0, 1, 41),)), ("points", ((40,),)), ("box", ((0, 1, 1), (0, 1, 1)))]:
            self.check(InvalidSelection, selection, bad)
            with self.assertRaises(InvalidSelection):
                line().read(selection)
        self.check(InvalidSelection, ("box", ((0, 1, 100001),)), bad)
        self.check(TooLarge, ("points", ((1,),) * 100001), bad, limit=100000)
        with self.assertRaises(TooLarge):
            line().read(("points", ((1,),) * 100001))

    def test_then_the_number_of_values(self):
        box = ("box", ((2, 1, 3),))
        self.check(WrongCount, box, [1, 2], due=3, given=2)
        self.check(WrongCount, box, [10 ** 6] * 4, due=3, given=4)
        self.check(WrongCount, box, [], due=3, given=0)
        self.check(WrongCount, ("points", ()), [1], due=0, given=1)

    def test_then_the_first_value_out_of_range(self):
        box = ("box", ((2, 1, 3),))
        self.check(InvalidValue, box, [1, 32768, -32769], value=32768)
        self.check(InvalidValue, box, [-32769, 1, 40000], value=-32769)
        self.check(InvalidValue, ("points", ((1,), (1,))), [10 ** 29, 1], value=10 ** 29)

    def test_then_damage(self):
        array = line()
        pointer = find(array.log, array.root, (1,))
        array.log = Log(damaged_disk(array.log.disk, pointer))
        box = ("box", ((2, 1, 3),))
        for error, selection, values in [
            (InvalidSelection, ("box", ((2, 1, 99),)), [1]), (WrongCount, box, [1]), (InvalidValue, box, [0, 1, 10 ** 6]),
        ]:
            with self.assertRaises(error):
                write_slab(array.log, array.layout, array.root, array.shape, selection, values)


class NeedTests(unittest.TestCase):
    def test_which_chunks_are_read(self):
        array = line()
        spy = SpyLog(array.log.disk)
        for selection in [
            ("box", ((4, 1, 1),)), ("box", ((2, 5, 4),)), ("points", ((39,), (0,), (39,), (38,))), ("points", ()), whole((40,)),
        ]:
            spy.read = []
            values = read_slab(spy, array.layout, array.root, array.shape, selection)
            self.assertEqual(values, array.read(selection))
            due = [find(spy, array.root, grid) for grid in grids_of(array.layout, array.shape, selection)]
            self.assertEqual(sorted(spy.read), sorted(due))
            self.assertEqual(spy.written, [])

    def test_which_chunks_are_read_and_written(self):
        array = line()
        for selection in [("box", ((4, 1, 1),)), ("box", ((2, 5, 4),)), ("points", ((39,), (0,), (39,))), ("box", ((3, 1, 3),))]:
            spy = SpyLog(array.log.disk)
            values = [77] * len(picked(array.shape, selection))
            grids = grids_of(array.layout, array.shape, selection)
            root = write_slab(spy, array.layout, array.root, array.shape, selection, values)
            self.assertEqual(sorted(spy.read), sorted([find(spy, array.root, grid) for grid in grids]))
            self.assertEqual(sorted(spy.written), sorted([find(spy, root, grid) for grid in grids]))
            before, after = dict(entries(spy, array.root)), dict(entries(spy, root))
            for grid in before:
                self.assertEqual(before[grid] == after[grid], grid not in grids)

    def test_chunks_without_a_record(self):
        array = Array((40,), Layout("u1", (3,), 9, ()))
        array.write(("points", ((4,), (30,))), [1, 2])
        self.assertEqual([grid for grid, _ in entries(array.log, array.root)], [(1,), (10,)])
        self.assertEqual(load_chunk(array.log, array.layout, array.root, (1,)), [9, 1, 9])

    def check_need(self, array, needed, action):
        """With each one record changed, the action fails if the record is needed."""
        due = action(array.log)
        array.log.drop()
        pointers = [pointer for pointer, _, _ in nodes_of(array.log.disk, array.root)]
        pointers += [pointer for _, pointer in entries(array.log, array.root)]
        self.assertTrue(set(needed) <= set(pointers))
        for pointer in pointers:
            changed = Log(damaged_disk(array.log.disk, pointer, pointer[1] // 2))
            got = outcome(lambda: action(changed))
            self.assertEqual(got, ("damaged", pointer) if pointer in needed else ("gives", due))
            if pointer in needed:
                self.assertEqual(changed.pending, 0)

    def needed_records(self, array, selection):
        needed = []
        for grid in grids_of(array.layout, array.shape, selection):
            needed += way_down(array.log.disk, array.root, grid) + [find(array.log, array.root, grid)]
        return needed

    def test_damage(self):
        array = line()
        for selection in [("box", ((4, 1, 1),)), ("box", ((2, 9, 4),)), ("points", ((39,), (0,))), ("points", ()), whole((40,))]:
            needed = self.needed_records(array, selection)
            values = [77] * len(picked(array.shape, selection))
            self.check_need(
                array, needed, lambda log: read_slab(log, array.layout, array.root, array.shape, selection)
            )
            self.check_need(
                array, needed, lambda log: write_slab(log, array.layout, array.root, array.shape, selection, values)
            )

    def test_writing_all_over_a_chunk_needs_it(self):
        array = line()
        box = ("box", ((3, 1, 3),))
        needed = self.needed_records(array, box)
        self.assertIn(find(array.log, array.root, (1,)), needed)
        self.check_need(array, needed, lambda log: write_slab(log, array.layout, array.root, (40,), box, [1, 2, 3]))

    def test_resizing(self):
        array = line()
        disk, root = array.log.disk, array.root
        for size in (40, 41, 10 ** 9):
            self.check_need(array, [], lambda log: resize_slabs(log, array.layout, root, (40,), (size,)))
        for size in (38, 36, 30):
            low = size // 3
            needed = [pointer for pointer, _, end in nodes_of(disk, root) if end is None or end > (low,)]
            if size % 3:
                needed.append(find(array.log, root, (low,)))
            self.check_need(array, needed, lambda log: resize_slabs(log, array.layout, root, (40,), (size,)))


class ResizeTests(unittest.TestCase):
    def grids(self, array):
        return [grid for grid, _ in entries(array.log, array.root)]

    def test_chunks_that_lie_outside_are_gone(self):
        array = Array((5, 7), Layout("u1", (2, 3), 9, ()))
        array.write(whole((5, 7)), list(range(35)))
        self.assertEqual(len(self.grids(array)), 9)
        array.resize((5, 6))
        self.assertEqual(self.grids(array), [(0, 0), (0, 1), (1, 0), (1, 1), (2, 0), (2, 1)])
        self.assertTrue(array.is_right())
        array.resize((4, 4))
        self.assertEqual(self.grids(array), [(0, 0), (0, 1), (1, 0), (1, 1)])
        self.assertTrue(array.is_right())
        array.resize((4, 0))
        self.assertEqual(array.root, NOWHERE)
        self.assertTrue(array.is_right())

    def test_mixed_with_a_size_of_zero(self):
        # The first chunk in row order is lost through the first dimension.
        for shape in [(0, 3), (0, 9), (3, 0), (0, 0)]:
            array = Array((5, 5), Layout("u1", (2, 2), 9, ()))
            array.write(whole((5, 5)), list(range(25)))
            array.resize(shape)
            self.assertEqual(array.root, NOWHERE)
            array.resize((5, 5))
            self.assertTrue(array.is_right())

    def test_growing_again_shows_the_fill_value(self):
        for small in [(3, 4), (5, 1), (1, 7), (4, 3), (0, 7), (3, 9), (9, 2)]:
            array = Array((5, 7), Layout("i1", (2, 3), -9, ("delta", "runs")))
            array.write(whole((5, 7)), list(range(35)))
            array.resize(small)
            self.assertTrue(array.is_right())
            array.resize((9, 9))
            self.assertTrue(array.is_right())

    def test_growing_changes_no_chunk(self):
        array = line()
        for shape in [(40,), (41,), (42,), (1000,), (10 ** 9,)]:
            self.assertEqual(resize_slabs(array.log, array.layout, array.root, (40,), shape), array.root)
        self.assertEqual(array.log.pending, 0)
        wide = Array((3, 4), Layout("u1", (2, 2), 0, ()))
        wide.write(whole((3, 4)), list(range(12)))
        self.assertEqual(resize_slabs(wide.log, wide.layout, wide.root, (3, 4), (3, 5)), wide.root)

    def test_chunks_that_lose_nothing_are_kept_or_have_the_same_values(self):
        array = line()
        before = dict(entries(array.log, array.root))
        array.resize((20,))
        after = dict(entries(array.log, array.root))
        self.assertEqual(sorted(after), [(number,) for number in range(7)])
        self.assertEqual([grid for grid in after if after[grid] != before[grid]], [(6,)])

    def test_chunks_that_end_where_the_new_shape_ends_are_kept(self):
        array = Array((6, 6), Layout("u1", (2, 2), 0, ()))
        array.write(whole((6, 6)), list(range(36)))
        before = dict(entries(array.log, array.root))
        array.resize((6, 4))
        after = dict(entries(array.log, array.root))
        self.assertEqual(after, {grid: before[grid] for grid in before if grid[1] < 2})
        array.resize((3, 4))
        kept = {grid: pointer for grid, pointer in entries(array.log, array.root) if after[grid] == pointer}
        self.assertEqual(sorted(kept), [(0, 0), (0, 1)])

    def test_only_the_fill_value_beyond_the_old_shape(self):
        # The last chunk reaches beyond the old shape, and the new one ends there, too.
        array = line()
        array.resize((39,))
        self.assertEqual(load_chunk(array.log, array.layout, array.root, (12,)), [37, 38, 39])
        self.assertNotIn((13,), self.grids(array))
        array.resize((38,))
        self.assertEqual(load_chunk(array.log, array.layout, array.root, (12,)), [37, 38, -5])

    def test_no_dimensions(self):
        array = Array((), Layout("u1", (), 0, ()))
        array.write(whole(()), [5])
        self.assertEqual(resize_slabs(array.log, array.layout, array.root, (), ()), array.root)

    def test_damage_leaves_the_batch_as_it_was(self):
        # When the right half of the index is gone, its left half may become the root.
        array = line(count=44, layout=Layout("u1", (1,), 0, ()))
        nodes = nodes_of(array.log.disk, array.root)
        left = [pointer for pointer, low, _ in nodes if low == (0,)][0]
        broken = Log(damaged_disk(array.log.disk, left))
        got = outcome(lambda: resize_slabs(broken, array.layout, array.root, (44,), (25,)))
        self.assertEqual((got, broken.pending), (("damaged", left), 0))

    def test_old_roots_still_give_the_old_array(self):
        array = line()
        old = array.root
        array.resize((7,))
        self.assertEqual(read_slab(array.log, array.layout, old, (40,), whole((40,))), list(range(1, 41)))


if __name__ == "__main__":
    unittest.main()
