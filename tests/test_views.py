"""Views (points 40 to 43)."""

import unittest

from tessera.disks import Disk
from tessera.objects import View
from tessera.opening import new_store, open_store
from tessera.selections import whole
from tessera.shapes import indexes_in
from tessera.views import deciding_piece, source_index


def line(count):
    return ("box", ((0, 1, count),))


def store_with(*, kind="u1", values=(1, 2, 3, 4)):
    """A store with an array "a" of one dimension that has these values."""
    store = new_store(Disk([]))
    store.make_array("a", kind, (len(values),), chunks=(2,))
    store.write("a", line(len(values)), list(values))
    return store


class PieceTests(unittest.TestCase):
    def test_the_last_piece_decides(self):
        pieces = [("a", (0,), (0,), (4,)), ("b", (0,), (2,), (4,)), ("c", (0,), (3,), (1,))]
        view = View([], "u1", (8,), 0, pieces)
        self.assertEqual([deciding_piece(view, (at,)) for at in range(8)], [0, 0, 1, 2, 1, 1, None, None])

    def test_boxes_of_several_dimensions(self):
        view = View([], "u1", (4, 4), 0, [("a", (5, 6), (1, 1), (2, 2)), ("b", (0, 0), (2, 0), (1, 4))])
        due = {(1, 1): 0, (1, 2): 0, (2, 0): 1, (2, 1): 1, (2, 2): 1, (2, 3): 1}
        for index in indexes_in((4, 4)):
            self.assertEqual(deciding_piece(view, index), due.get(index))

    def test_without_pieces_and_dimensions(self):
        self.assertIsNone(deciding_piece(View([], "u1", (8,), 0, []), (3,)))
        self.assertEqual(deciding_piece(View([], "u1", (), 0, [("a", (), (), ())] * 2), ()), 1)

    def test_source_indexes(self):
        self.assertEqual(source_index(("a", (5, 6), (1, 1), (2, 2)), (1, 2)), (5, 7))
        self.assertEqual(source_index(("a", (0,), (3,), (9,)), (11,)), (8,))
        self.assertEqual(source_index(("a", (), (), ()), ()), ())
        self.assertEqual(source_index(("a", (10 ** 20,), (1,), (9,)), (2,)), (10 ** 20 + 1,))


class ReadTests(unittest.TestCase):
    def check_line(self, store, due, **view):
        named = {"kind": "u1", "shape": (3,), "fill": 9, "pieces": [("a", (2,), (0,), (2,))]}
        named.update(view)
        store.make_view("v", named["kind"], named["shape"], pieces=named["pieces"], fill=named["fill"])
        self.assertEqual(store.read("v", whole(named["shape"])), due)

    def test_example(self):
        store = new_store(Disk([]))
        store.make_array("a", "u1", (4,), chunks=(4,))
        store.write("a", ("box", ((0, 1, 4),)), [1, 2, 3, 4])
        store.make_view("v", "u1", (3,), pieces=[("a", (2,), (0,), (2,))], fill=9)
        self.assertEqual(store.read("v", ("box", ((0, 1, 3),))), [3, 4, 9])

    def test_where_no_piece_is(self):
        self.check_line(store_with(), [9, 9, 9], pieces=[])
        self.check_line(store_with(), [9, 1, 9], pieces=[("a", (0,), (1,), (1,))])

    def test_the_last_piece_decides_even_if_it_shows_nothing(self):
        pieces = [("a", (0,), (0,), (3,)), ("none", (0,), (1,), (1,))]
        self.check_line(store_with(), [1, 9, 3], pieces=pieces)
        self.check_line(store_with(), [1, 9, 3], pieces=[pieces[0], ("a", (99,), (1,), (1,))])
        self.check_line(store_with(), [1, 2, 3], pieces=pieces[::-1])

    def test_indexes_outside_of_the_array(self):
        self.check_line(store_with(), [4, 9, 9], pieces=[("a", (3,), (0,), (3,))])
        self.check_line(store_with(), [9, 9, 9], pieces=[("a", (10 ** 20,), (0,), (3,))])

    def test_another_number_of_dimensions(self):
        self.check_line(store_with(), [9] * 4, shape=(2, 2), pieces=[("a", (0, 0), (0, 0), (2, 2))])
        self.check_line(store_with(), [9], shape=(), pieces=[("a", (), (), ())])

    def test_groups_views_and_nothing(self):
        store = store_with()
        store.make_group("g")
        store.make_view("w", "u1", (3,), pieces=[("a", (0,), (0,), (3,))], fill=8)
        pieces = [("g", (0,), (0,), (1,)), ("w", (0,), (1,), (1,)), ("g/x", (0,), (2,), (1,))]
        self.check_line(store, [9, 9, 9], pieces=pieces)
        self.assertEqual(store.read("w", line(3)), [1, 2, 3])

    def test_a_view_of_itself(self):
        self.check_line(store_with(), [9, 9, 9], pieces=[("v", (0,), (0,), (3,))])

    def test_values_outside_of_the_range(self):
        values = (-129, -128, -1, 0, 127, 128, 255, 256)
        piece = [("a", (0,), (0,), (8,))]
        self.check_line(store_with(kind="i4", values=values), [9, 9, 9, 0, 127, 128, 255, 9], shape=(8,), pieces=piece)
        due = [9, -128, -1, 0, 127, 9, 9, 9]
        self.check_line(store_with(kind="i4", values=values), due, kind="i1", shape=(8,), pieces=piece)

    def test_without_dimensions(self):
        store = new_store(Disk([]))
        store.make_array("s", "i1", (), chunks=())
        store.write("s", whole(()), [-7])
        self.check_line(store, [-7], kind="i1", shape=(), pieces=[("s", (), (), ())])

    def test_selections(self):
        store = store_with()
        store.make_view("v", "u1", (5,), pieces=[("a", (0,), (1,), (4,))], fill=9)
        self.assertEqual(store.read("v", ("points", ((4,), (0,), (2,), (4,)))), [4, 9, 2, 4])
        self.assertEqual(store.read("v", ("box", ((0, 2, 3),))), [9, 2, 4])
        self.assertEqual(store.read("v", ("points", ())), [])

    def test_several_arrays_as_one(self):
        store = new_store(Disk([]))
        store.make_group("g")
        store.make_array("g/left", "u1", (3, 3), chunks=(2, 2), fill=1)
        store.make_array("right", "u2", (3, 3), chunks=(3, 1), fill=2, filters=("runs",))
        store.write("right", ("points", ((0, 0), (2, 2))), [5, 600])
        pieces = [("g/left", (0, 0), (0, 0), (3, 3)), ("right", (0, 0), (0, 3), (3, 3))]
        store.make_view("v", "u2", (3, 6), pieces=pieces)
        self.assertEqual(store.read("v", whole((3, 6))), [1, 1, 1, 5, 2, 2, 1, 1, 1, 2, 2, 2, 1, 1, 1, 2, 2, 600])

    def test_read_alike(self):
        # How arrays are divided into chunks and filtered does not matter, and a view
        # of all of an array is read like it.
        store = store_with(values=(5, 6, 7, 8, 9))
        store.make_array("b", "u1", (5,), chunks=(4,), filters=("delta", "runs"))
        store.write("b", line(5), [5, 6, 7, 8, 9])
        store.make_view("v", "u1", (5,), pieces=[("b", (0,), (0,), (5,))])
        for selection in [line(5), ("points", ((4,), (0,))), ("box", ((1, 2, 2),))]:
            self.assertEqual(store.read("a", selection), store.read("b", selection))
            self.assertEqual(store.read("a", selection), store.read("v", selection))


class FollowTests(unittest.TestCase):
    def setUp(self):
        self.disk = Disk([])
        self.store = new_store(self.disk)
        self.store.make_array("a", "u1", (4,), chunks=(2,))
        self.store.write("a", line(4), [1, 2, 3, 4])
        self.store.make_view("v", "u1", (4,), pieces=[("a", (0,), (0,), (4,))], fill=9)
        self.store.commit()

    def check(self, due):
        self.assertEqual(self.store.read("v", line(4)), due)

    def test_writes_in_the_present_batch(self):
        self.store.write("a", ("points", ((2,),)), [77])
        self.check([1, 2, 77, 4])
        self.store.discard()
        self.check([1, 2, 3, 4])
        self.store.write("a", ("points", ((2,),)), [78])
        self.store.commit()
        self.check([1, 2, 78, 4])
        self.store = open_store(self.disk)
        self.check([1, 2, 78, 4])

    def test_resizes(self):
        self.store.resize("a", (2,))
        self.check([1, 2, 9, 9])
        self.store.resize("a", (4,))
        self.check([1, 2, 0, 0])

    def test_moves_and_removals(self):
        self.store.move("a", "b")
        self.check([9, 9, 9, 9])
        self.store.make_group("a")
        self.check([9, 9, 9, 9])
        self.store.remove("a")
        self.store.duplicate("b", "a")
        self.check([1, 2, 3, 4])
        self.store.remove("a")
        self.check([9, 9, 9, 9])
        self.store.move("b", "a")
        self.check([1, 2, 3, 4])

    def test_another_array_at_the_path(self):
        self.store.remove("a")
        self.store.make_array("a", "i2", (3,), chunks=(1,), fill=-1)
        self.store.write("a", ("points", ((1,),)), [200])
        self.check([9, 200, 9, 9])


if __name__ == "__main__":
    unittest.main()
