"""Stores: deeds, questions and their errors (points 36 to 39)."""

import unittest

from tessera.disks import Disk
from tessera.errors import (
    AlreadyThere, InvalidPart, InvalidPath, InvalidSelection, InvalidShape, InvalidValue, IntoItself, NoAttribute,
    NotAGroup, NotAnArray, NotFound, TooLarge, WrongCount,
)
from tessera.layouts import Layout
from tessera.opening import new_store, open_store
from tessera.records import read_record
from tessera.selections import whole

from tests.tools import error_of, snapshot

BAD_PATHS = ["A", "a/", "/a", "/", "a//b", "x" * 13, "a/b/c/d/e/f/g", "g/B", " "]
PIECE = ("g/a", (0, 0), (0, 0), (1, 1))


def line(count):
    return ("box", ((0, 1, count),))


def example_store():
    """A store with a group "g", an array "g/a", a view "v", and a group in a group."""
    store = new_store(Disk([]))
    store.make_group("g")
    store.make_array("g/a", "i2", (3, 4), chunks=(2, 2), fill=-1, filters=("delta", "runs"))
    store.write("g/a", whole((3, 4)), list(range(12)))
    store.make_view("v", "u1", (2, 2), pieces=[("g/a", (1, 1), (0, 0), (2, 2))], fill=9)
    store.make_group("g/h")
    store.make_array("g/h/s", "u1", (), chunks=())
    store.set_attribute("g/a", "unit", "metres")
    return store


class ExampleTests(unittest.TestCase):
    def test_a_small_array(self):
        store = new_store(Disk([]))
        store.make_array("a", "i2", (3,), chunks=(2,), fill=7)
        store.write("a", ("box", ((1, 1, 1),)), [-5])
        self.assertEqual(store.read("a", ("box", ((0, 1, 3),))), [7, -5, 7])

    def test_a_missing_parent(self):
        with self.assertRaises(NotAGroup):
            new_store(Disk([])).make_group("a/b")

    def test_what_the_script_shows(self):
        store = new_store(Disk([]))
        store.make_array("a", "i2", (2, 3), chunks=(2, 2), fill=0, filters=("delta",))
        store.write("a", ("box", ((0, 1, 1), (0, 1, 3))), [4, 5, 6])
        self.assertEqual(store.read("a", ("box", ((0, 1, 2), (1, 1, 2)))), [5, 6, 0, 0])
        self.assertEqual(error_of(lambda: store.read("b", ("box", ()))), (NotFound, {"path": "b"}))
        self.assertEqual(error_of(lambda: store.write("a", ("box", ((0, 1, 1),)), [4]))[0], InvalidSelection)


class RefusalTests(unittest.TestCase):
    def setUp(self):
        self.store = example_store()
        self.before = snapshot(self.store)

    def refused(self, error, action, **fields):
        """The action raises the error, and nothing that can be read has changed."""
        self.assertEqual(error_of(action), (error, fields))
        self.assertEqual(snapshot(self.store), self.before)

    def check_place(self, make):
        """Making at a path is refused as point 39 says."""
        for path in BAD_PATHS + [""]:
            self.refused(InvalidPath, lambda: make(path), path=path)
        for path in ("g", "g/a", "v", "g/h", "g/h/s"):
            self.refused(AlreadyThere, lambda: make(path), path=path)
        for path, above in [("x/y", "x"), ("g/a/x", "g/a"), ("v/x", "v"), ("g/x/y", "g/x"), ("g/h/s/t", "g/h/s")]:
            self.refused(NotAGroup, lambda: make(path), path=above)

    def test_making_groups(self):
        self.check_place(lambda path: self.store.make_group(path))
        for path in ("new", "g/new", "g/h/new", "new/deeper"):
            self.assertIsNone(self.store.make_group(path))
            self.assertEqual((self.store.kind_at(path), self.store.attributes_of(path)), ("group", []))

    def test_making_arrays(self):
        bad = ("i8", (-1,), (0,), 10 ** 6, ("other",))

        def make(path, kind, shape, chunks, fill, filters):
            return self.store.make_array(path, kind, shape, chunks=chunks, fill=fill, filters=filters)

        self.check_place(lambda path: make(path, *bad))
        self.refused(InvalidPart, lambda: make("x", *bad))
        for kind in ("", "i", "u8", "f4", "I1"):
            self.refused(InvalidPart, lambda: make("x", kind, (3,), (2,), 0, ()))
        for shape in [(-1,), (10 ** 9 + 1,), (1, 1, 1, 1, 1)]:
            self.refused(InvalidShape, lambda: make("x", "u1", shape, (0,), 256, ("other",)))
        for chunks in [(0,), (), (1, 1), (4097,), (-1,)]:
            self.refused(InvalidPart, lambda: make("x", "u1", (3,), chunks, 256, ()))
        for filters in [("other",), ("delta",) * 7, ("",)]:
            self.refused(InvalidPart, lambda: make("x", "u1", (3,), (2,), 256, filters))
        for fill in (256, -1, 10 ** 29):
            self.refused(InvalidValue, lambda: make("x", "u1", (3,), (2,), fill, ()), value=fill)
        self.assertIsNone(make("x", "u1", (3,), (2,), 255, ("delta",) * 6))
        self.assertEqual((self.store.kind_at("x"), self.store.shape_of("x")), ("array", (3,)))
        self.assertTrue(self.store.layout_of("x") == Layout("u1", (2,), 255, ("delta",) * 6))
        self.assertEqual(self.store.read("x", line(3)), [255] * 3)

    def test_array_defaults(self):
        self.store.make_array("x", "u1", (3,), chunks=(2,))
        self.assertTrue(self.store.layout_of("x") == Layout("u1", (2,), 0, ()))

    def test_making_views(self):
        def make(path, kind, shape, pieces, fill):
            return self.store.make_view(path, kind, shape, pieces=pieces, fill=fill)

        bad_piece = ("g/a", (0,), (0,), (9,))
        self.check_place(lambda path: make(path, "i8", (-1,), [bad_piece], 10 ** 6))
        self.refused(InvalidPart, lambda: make("x", "i8", (-1,), [bad_piece], 10 ** 6))
        self.refused(InvalidShape, lambda: make("x", "u1", (-1,), [bad_piece], 10 ** 6))
        self.refused(InvalidValue, lambda: make("x", "u1", (3,), [bad_piece], 256), value=256)
        self.refused(InvalidPart, lambda: make("x", "u1", (3,), [bad_piece], 255))
        good = ("g/a", (0,), (0,), (3,))
        self.refused(InvalidPart, lambda: make("x", "u1", (3,), [good, ("", (0,), (0,), (1,))], 0))
        self.refused(InvalidPart, lambda: make("x", "u1", (3,), [good] * 11, 0))
        self.assertIsNone(make("x", "u1", (3,), [good] * 10, 255))
        self.assertEqual((self.store.kind_at("x"), self.store.shape_of("x")), ("view", (3,)))
        self.assertEqual(self.store.pieces_of("x"), (good,) * 10)
        self.store.make_view("y", "i1", (3,), pieces=[])
        self.assertEqual((self.store.pieces_of("y"), self.store.read("y", line(3))), ((), [0, 0, 0]))

    def test_adding_pieces(self):
        for path in BAD_PATHS:
            self.refused(InvalidPath, lambda: self.store.add_piece(path, PIECE), path=path)
        for path in ("x", "g/x", "v/x"):
            self.refused(NotFound, lambda: self.store.add_piece(path, ("", (), (), ())), path=path)
        for path in ("", "g", "g/a"):
            self.refused(NotAnArray, lambda: self.store.add_piece(path, ("", (), (), ())), path=path)
        for piece in [("", (0, 0), (0, 0), (1, 1)), ("g/a", (0, 0), (0, 0), (3, 1)), ("g/a", (0,), (0,), (1,))]:
            self.refused(InvalidPart, lambda: self.store.add_piece("v", piece))
        self.store.set_attribute("v", "n", (1, 2))
        due = self.store.pieces_of("v")
        for _ in range(9):
            self.assertIsNone(self.store.add_piece("v", PIECE))
            due = due + (PIECE,)
            self.assertEqual(self.store.pieces_of("v"), due)
        self.assertEqual(self.store.attributes_of("v"), [("n", (1, 2))])
        self.assertEqual((self.store.shape_of("v"), self.store.read("v", whole((2, 2)))), ((2, 2), [0, 6, 9, 10]))
        self.before = snapshot(self.store)
        self.refused(InvalidPart, lambda: self.store.add_piece("v", PIECE))

    def test_removing(self):
        for path in BAD_PATHS + [""]:
            self.refused(InvalidPath, lambda: self.store.remove(path), path=path)
        for path in ("x", "g/x", "v/x", "g/a/x"):
            self.refused(NotFound, lambda: self.store.remove(path), path=path)
        self.assertIsNone(self.store.remove("g"))
        self.assertEqual(self.store.paths(), ["", "v"])
        self.store.remove("v")
        self.assertEqual((self.store.paths(), self.store.names_in("")), ([""], []))

    def check_carrying(self, carry):
        for path in BAD_PATHS + [""]:
            self.refused(InvalidPath, lambda: carry(path, "A"), path=path)
            self.refused(InvalidPath, lambda: carry("x", path), path=path)
        self.refused(NotFound, lambda: carry("x", "x"), path="x")
        self.refused(NotFound, lambda: carry("x", "x/y"), path="x")
        self.refused(NotFound, lambda: carry("g/x", "v"), path="g/x")
        for other in ("g", "g/a", "g/x", "g/h/x/y"):
            self.refused(IntoItself, lambda: carry("g", other), path=other)
        self.refused(IntoItself, lambda: carry("v", "v/x"), path="v/x")
        for path, other in [("g", "v"), ("v", "g"), ("g/a", "g"), ("g/h", "g/a"), ("g/a", "v")]:
            self.refused(AlreadyThere, lambda: carry(path, other), path=other)
        for path, other, above in [("g", "x/y", "x"), ("g", "v/x", "v"), ("v", "g/a/x", "g/a"), ("g/h", "g/x/h", "g/x")]:
            self.refused(NotAGroup, lambda: carry(path, other), path=above)
        for path in ("n1", "n1/n2", "n1/n2/n3", "n1/n2/n3/n4", "n1/n2/n3/n4/n5"):
            self.store.make_group(path)
        self.before = snapshot(self.store)
        deep = "n1/n2/n3/n4/n5/g"
        self.refused(InvalidPath, lambda: carry("g", deep), path=deep + "/a")
        self.refused(InvalidPath, lambda: carry("g", "n1/n2/n3/n4/g"), path="n1/n2/n3/n4/g/h/s")
        self.assertIsNone(carry("g", "n1/n2/n3/g"))

    def test_moving(self):
        kept = dict(self.before)
        self.check_carrying(self.store.move)
        for path in ("g", "g/a", "g/h", "g/h/s"):
            self.refused_now_missing(path)
            new = "n1/n2/n3/" + path
            self.assertEqual(dict(snapshot(self.store))[new], kept[path])

    def refused_now_missing(self, path):
        self.assertEqual(error_of(lambda: self.store.kind_at(path)), (NotFound, {"path": path}))

    def test_copying(self):
        kept = dict(self.before)
        self.check_carrying(self.store.duplicate)
        now = dict(snapshot(self.store))
        for path in ("g", "g/a", "g/h", "g/h/s"):
            self.assertEqual(now[path], kept[path])
            self.assertEqual(now["n1/n2/n3/" + path], kept[path])

    def check_lookup(self, ask):
        for path in BAD_PATHS:
            self.refused(InvalidPath, lambda: ask(path), path=path)
        for path in ("x", "g/x", "g/a/x", "v/x", "x/y/z"):
            self.refused(NotFound, lambda: ask(path), path=path)

    def test_attributes(self):
        self.check_lookup(lambda path: self.store.set_attribute(path, "A", "a\n"))
        self.check_lookup(lambda path: self.store.remove_attribute(path, "A"))
        self.check_lookup(self.store.attributes_of)
        for path in ("", "g", "g/a", "v"):
            for name, value in [("A", ""), ("", ()), ("a" * 13, ""), ("a", "t" * 201), ("a", (1,) * 51), ("a", (10 ** 30,)), ("a", "%")]:
                self.refused(InvalidPart, lambda: self.store.set_attribute(path, name, value))
            for name in ("a", "A", ""):
                self.refused(NoAttribute, lambda: self.store.remove_attribute(path, name), name=name)
        for path in ("", "g", "g/a", "v"):
            due = dict(self.store.attributes_of(path))
            for name, value in [("n", "x"), ("0", (5, -10 ** 29)), ("n", (1,)), ("z" * 12, ""), ("n", "t" * 200)]:
                self.assertIsNone(self.store.set_attribute(path, name, value))
                due[name] = value
                self.assertEqual(self.store.attributes_of(path), sorted(due.items()))
            for name in ("n", "0"):
                self.assertIsNone(self.store.remove_attribute(path, name))
                del due[name]
                self.assertEqual(self.store.attributes_of(path), sorted(due.items()))
        self.assertEqual(self.store.read("g/a", whole((3, 4))), list(range(12)))
        self.assertEqual(self.store.pieces_of("v"), (("g/a", (1, 1), (0, 0), (2, 2)),))

    def test_the_number_of_attributes(self):
        for path in ("", "v", "g/h/s"):
            for number in range(20):
                self.store.set_attribute(path, f"n{number}", (number,))
            self.before = snapshot(self.store)
            self.refused(InvalidPart, lambda: self.store.set_attribute(path, "more", ""))
            self.store.set_attribute(path, "n7", "again")
            self.store.remove_attribute(path, "n3")
            self.store.set_attribute(path, "more", "")
            self.assertEqual(len(self.store.attributes_of(path)), 20)

    def test_writing(self):
        bad = ("box", ((0, 1, 99),))
        self.check_lookup(lambda path: self.store.write(path, bad, []))
        for path in ("", "g", "v", "g/h"):
            self.refused(NotAnArray, lambda: self.store.write(path, bad, []), path=path)
        self.refused(InvalidSelection, lambda: self.store.write("g/a", bad, [10 ** 6]))
        points = ("points", ((0, 0),) * 100001)
        self.refused(TooLarge, lambda: self.store.write("g/a", points, [10 ** 6]), limit=100000)
        box = ("box", ((0, 1, 1), (0, 1, 2)))
        self.refused(WrongCount, lambda: self.store.write("g/a", box, [10 ** 6]), due=2, given=1)
        self.refused(InvalidValue, lambda: self.store.write("g/a", box, [1, 32768]), value=32768)
        self.assertIsNone(self.store.write("g/a", box, [70, 71]))
        self.assertEqual(self.store.read("g/a", whole((3, 4))), [70, 71] + list(range(2, 12)))
        self.assertEqual(self.store.attributes_of("g/a"), [("unit", "metres")])

    def test_resizing(self):
        self.check_lookup(lambda path: self.store.resize(path, (-1,)))
        for path in ("", "g", "v"):
            self.refused(NotAnArray, lambda: self.store.resize(path, (-1,)), path=path)
        for shape in [(3,), (3, 4, 1), (), (-1, 4), (3, 10 ** 9 + 1), (1,) * 5]:
            self.refused(InvalidShape, lambda: self.store.resize("g/a", shape))
        self.refused(InvalidShape, lambda: self.store.resize("g/h/s", (1,)))
        self.assertIsNone(self.store.resize("g/h/s", ()))
        self.assertIsNone(self.store.resize("g/a", (2, 5)))
        self.assertEqual(self.store.shape_of("g/a"), (2, 5))
        self.assertEqual(self.store.read("g/a", whole((2, 5))), [0, 1, 2, 3, -1, 4, 5, 6, 7, -1])
        self.assertEqual(self.store.attributes_of("g/a"), [("unit", "metres")])
        self.store.resize("g/a", (3, 10 ** 9))
        self.assertEqual(self.store.read("g/a", ("points", ((2, 0), (2, 10 ** 9 - 1), (1, 3)))), [-1, -1, 7])

    def test_reading(self):
        bad = ("box", ((0, 1, 99),))
        self.check_lookup(lambda path: self.store.read(path, bad))
        for path in ("", "g", "g/h"):
            self.refused(NotAnArray, lambda: self.store.read(path, bad), path=path)
        for path in ("g/a", "v"):
            self.refused(InvalidSelection, lambda: self.store.read(path, bad))
            points = ("points", ((0, 0),) * 100001)
            self.refused(TooLarge, lambda: self.store.read(path, points), limit=100000)
        self.assertEqual(self.store.read("g/a", ("points", ((2, 3), (0, 0)))), [11, 0])
        self.assertEqual(self.store.read("v", whole((2, 2))), [5, 6, 9, 10])

    def test_what_objects_are(self):
        for ask in (self.store.kind_at, self.store.shape_of, self.store.layout_of, self.store.pieces_of, self.store.names_in):
            self.check_lookup(ask)
        self.check_lookup(lambda path: self.store.chunk_pointer(path, (0,)))
        kinds = [self.store.kind_at(path) for path in ("", "g", "g/a", "v", "g/h", "g/h/s")]
        self.assertEqual(kinds, ["group", "group", "array", "view", "group", "array"])
        for path in ("", "g", "g/h"):
            for ask in (self.store.shape_of, self.store.layout_of, self.store.pieces_of):
                self.refused(NotAnArray, lambda: ask(path), path=path)
        self.refused(NotAnArray, lambda: self.store.layout_of("v"), path="v")
        self.refused(NotAnArray, lambda: self.store.pieces_of("g/a"), path="g/a")
        self.assertEqual([self.store.shape_of(path) for path in ("g/a", "v", "g/h/s")], [(3, 4), (2, 2), ()])
        self.assertTrue(self.store.layout_of("g/a") == Layout("i2", (2, 2), -1, ("delta", "runs")))
        self.assertEqual(self.store.pieces_of("v"), (("g/a", (1, 1), (0, 0), (2, 2)),))

    def test_names_and_paths(self):
        for path in ("g/a", "v", "g/h/s"):
            self.refused(NotAGroup, lambda: self.store.names_in(path), path=path)
        self.assertEqual(self.store.names_in(""), ["g", "v"])
        self.assertEqual(self.store.names_in("g"), ["a", "h"])
        self.assertEqual(self.store.names_in("g/h"), ["s"])
        self.assertEqual(self.store.paths(), ["", "g", "g/a", "g/h", "g/h/s", "v"])
        self.store.make_group("g0")
        self.store.make_group("g/a0")
        self.store.make_group("g/0")
        self.store.make_group("g1")
        self.assertEqual(self.store.paths(), ["", "g", "g/0", "g/a", "g/a0", "g/h", "g/h/s", "g0", "g1", "v"])
        self.assertEqual(self.store.names_in("g"), ["0", "a", "a0", "h"])
        self.assertEqual(self.store.names_in(""), ["g", "g0", "g1", "v"])
        self.assertEqual(self.store.names_in("g1"), [])

    def test_chunk_pointers(self):
        for path in ("", "g", "v"):
            self.refused(NotAnArray, lambda: self.store.chunk_pointer(path, (0, 0)), path=path)
        self.store.make_array("x", "u1", (9,), chunks=(4,))
        self.store.write("x", ("points", ((5,),)), [7])
        self.assertIsNone(self.store.chunk_pointer("x", (0,)))
        for grid in [(2,), (3,), (1, 0), (), (10 ** 20,)]:
            self.assertIsNone(self.store.chunk_pointer("x", grid))
        self.assertIsNone(self.store.chunk_pointer("g/h/s", ()))
        self.assertIsInstance(self.store.chunk_pointer("x", (1,)), tuple)

    def test_the_root_group(self):
        for action in (self.store.remove, self.store.make_group):
            self.refused(InvalidPath, lambda: action(""), path="")
        self.assertEqual(self.store.kind_at(""), "group")
        self.store.set_attribute("", "name", "all")
        for path in ("g", "v"):
            self.store.remove(path)
        self.assertEqual(self.store.paths(), [""])
        self.assertEqual(self.store.attributes_of(""), [("name", "all")])


class SharingTests(unittest.TestCase):
    def test_arguments_and_results_are_not_shared(self):
        store = example_store()
        values, pieces = [7, 8], [PIECE]
        box = ("box", ((0, 1, 1), (0, 1, 2)))
        store.write("g/a", box, values)
        store.make_view("w", "u1", (2, 2), pieces=pieces)
        self.assertEqual((values, pieces), ([7, 8], [PIECE]))
        values[0] = 99
        pieces.append(PIECE)
        before = snapshot(store)
        self.assertEqual(store.pieces_of("w"), (PIECE,))
        self.assertEqual(store.read("g/a", box), [7, 8])
        for found in (store.paths(), store.names_in(""), store.attributes_of("g/a"), store.read("g/a", box)):
            found.append("more")
        self.assertEqual(snapshot(store), before)

    def test_copies_share_records_until_they_are_changed(self):
        store = example_store()
        store.duplicate("g", "copy")
        for grid in [(0, 0), (0, 1), (1, 0), (1, 1)]:
            self.assertEqual(store.chunk_pointer("copy/a", grid), store.chunk_pointer("g/a", grid))
        store.write("copy/a", ("points", ((0, 0),)), [500])
        self.assertNotEqual(store.chunk_pointer("copy/a", (0, 0)), store.chunk_pointer("g/a", (0, 0)))
        self.assertEqual(store.chunk_pointer("copy/a", (1, 1)), store.chunk_pointer("g/a", (1, 1)))

    def test_changes_do_not_reach_the_other_one(self):
        for path, other in [("copy", "g"), ("g", "copy")]:
            store = example_store()
            store.duplicate("g", "copy")
            kept = dict(snapshot(store))
            store.write(path + "/a", whole((3, 4)), [9] * 12)
            store.resize(path + "/a", (1, 1))
            store.set_attribute(path + "/a", "unit", "feet")
            store.make_group(path + "/h/new")
            store.remove(path + "/h/s")
            now = dict(snapshot(store))
            for name in ("", "/a", "/h", "/h/s"):
                self.assertEqual(now[other + name], kept[other + name])
            self.assertEqual(store.read(path + "/a", whole((1, 1))), [9])

    def test_moving_and_copying_to_neighbours(self):
        store = example_store()
        store.make_group("g/h/deep")
        store.duplicate("g/h", "g/h0")
        store.move("g/h", "h")
        self.assertEqual(store.paths(), ["", "g", "g/a", "g/h0", "g/h0/deep", "g/h0/s", "h", "h/deep", "h/s", "v"])
        store.duplicate("g/h0/s", "g/h")
        self.assertEqual(store.kind_at("g/h"), "array")


class BatchTests(unittest.TestCase):
    DEEDS = [
        lambda store: store.make_group("x"),
        lambda store: store.make_array("x", "u1", (2,), chunks=(2,)),
        lambda store: store.make_view("x", "u1", (2,), pieces=[]),
        lambda store: store.add_piece("v", PIECE),
        lambda store: store.remove("g"),
        lambda store: store.move("g", "x"),
        lambda store: store.duplicate("g", "x"),
        lambda store: store.set_attribute("g/a", "name", (5,)),
        lambda store: store.remove_attribute("g/a", "unit"),
        lambda store: store.write("g/a", ("points", ((0, 0),)), [500]),
        lambda store: store.resize("g/a", (1, 7)),
    ]

    def test_commit_and_discard_after_deeds_of_each_sort(self):
        for deed in self.DEEDS:
            disk = Disk([])
            store = new_store(disk)
            store.make_group("g")
            store.make_array("g/a", "i2", (2, 2), chunks=(2, 2))
            store.make_view("v", "i2", (2, 2), pieces=[("g/a", (0, 0), (0, 0), (2, 2))])
            store.set_attribute("g/a", "unit", "metres")
            self.assertIsNone(store.commit())
            self.assertEqual(store.batch, 1)
            before = snapshot(store)
            size = len(disk)
            self.assertIsNone(deed(store))
            after = snapshot(store)
            self.assertNotEqual(after, before)
            self.assertEqual(len(disk), size)
            self.assertEqual(snapshot(open_store(disk.copied())), before)
            self.assertIsNone(store.discard())
            self.assertEqual((snapshot(store), store.batch, len(disk)), (before, 1, size))
            deed(store)
            store.commit()
            self.assertEqual((snapshot(store), store.batch), (after, 2))
            store.discard()
            self.assertEqual(snapshot(store), after)
            again = open_store(disk)
            self.assertEqual((snapshot(again), again.batch), (after, 2))

    def test_empty_batches(self):
        disk = Disk([])
        store = new_store(disk)
        size = len(disk)
        for number in range(1, 4):
            store.commit()
            self.assertEqual((store.batch, len(disk)), (number, size + 56 * number))
        self.assertEqual(open_store(disk).batch, 3)

    def test_refused_deeds_leave_no_bytes_behind(self):
        disk = Disk([])
        store = new_store(disk)
        store.make_array("a", "u1", (4,), chunks=(2,))
        store.commit()
        size = len(disk)
        for action in (
            lambda: store.make_group("a"), lambda: store.make_group("b/c"), lambda: store.write("a", line(4), [1, 2, 3, 256]),
            lambda: store.resize("a", ()), lambda: store.remove("b"), lambda: store.move("a", "a/b"),
        ):
            self.assertIsNotNone(error_of(action))
        store.commit()
        self.assertEqual(len(disk), size + 56)

    def test_discarded_deeds_leave_no_bytes_behind(self):
        disk = Disk([])
        store = new_store(disk)
        size = len(disk)
        store.make_array("a", "u1", (4,), chunks=(2,))
        store.write("a", line(4), [1, 2, 3, 4])
        store.discard()
        store.commit()
        self.assertEqual(len(disk), size + 56)

    def test_old_records_are_never_overwritten(self):
        disk = Disk([])
        store = new_store(disk)
        store.make_array("a", "u1", (4,), chunks=(2,))
        store.write("a", line(4), [1, 2, 3, 4])
        store.commit()
        pointer = store.chunk_pointer("a", (0,))
        start = disk.part(0, len(disk))
        store.write("a", line(4), [5, 6, 7, 8])
        store.remove("a")
        store.commit()
        self.assertEqual(disk.part(0, len(start)), start)
        self.assertEqual(read_record(disk, 3, pointer), [2, 1, 2])


if __name__ == "__main__":
    unittest.main()
