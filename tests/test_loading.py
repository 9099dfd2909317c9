"""Loading dumps (points 49 and 50)."""

import unittest

from tessera.disks import Disk
from tessera.dumps import dump
from tessera.errors import InvalidDump
from tessera.history import batches, look_at
from tessera.inspecting import inspect
from tessera.loading import load
from tessera.opening import open_store
from tessera.seals import seal_at
from tessera.selections import whole

from tests.plain_dumps import first_fault
from tests.tools import error_of, snapshot

TEXT = """group /
list empty
list n 1 -2 0
text t some  text 
text u 
array a i2
text unit metres
shape 3 5
fill -7
chunks 2 3
filters delta runs
chunk 0 0 : 1 2 3 4 5 6
chunk 0 1 : 7 8 -7 9 10 -7
chunk 1 1 : -32768 32767 -7 -7 -7 -7
group g
array g/a u4
shape
fill 4294967295
chunks
filters
chunk : 0
group g/h
text x :
group g/h/i
view g/v i1
shape 2 4
fill 0
piece a 0 1 0 0 2 2
piece g/none 5 5 1 1 1 3
array g0 i1
shape 0 1000000000
fill 0
chunks 1 4096
filters zeros zeros zeros zeros zeros zeros
view z u2
list l 5
shape
fill 1
piece g/a"""
LINES = TEXT.split("\n")


def bytes_of(disk):
    return disk.part(0, len(disk))


def with_line(number, *lines):
    """The text with these lines in place of the one with this number."""
    return "\n".join(LINES[:number - 1] + list(lines) + LINES[number:])


def fault_of(text):
    """The number of InvalidDump, or None; a text that is refused leaves the disk without bytes."""
    disk = Disk([])
    error = error_of(lambda: load(disk, text))
    if error is None:
        return None
    assert error[0] == InvalidDump and len(disk) == 0
    return error[1]["line"]


class GoodTests(unittest.TestCase):
    def setUp(self):
        self.disk = Disk([])
        self.store = load(self.disk, TEXT)

    def test_what_the_text_says(self):
        store = self.store
        self.assertEqual(store.paths(), ["", "a", "g", "g/a", "g/h", "g/h/i", "g/v", "g0", "z"])
        kinds = [store.kind_at(path) for path in store.paths()]
        self.assertEqual(kinds, ["group", "array", "group", "array", "group", "group", "view", "array", "view"])
        self.assertEqual(store.attributes_of(""), [("empty", ()), ("n", (1, -2, 0)), ("t", "some  text "), ("u", "")])
        self.assertEqual(store.attributes_of("a"), [("unit", "metres")])
        self.assertEqual((store.attributes_of("g/h"), store.attributes_of("g")), ([("x", ":")], []))
        self.assertEqual(store.attributes_of("z"), [("l", (5,))])

    def test_arrays(self):
        store = self.store
        self.assertEqual([store.shape_of(path) for path in ("a", "g/a", "g0")], [(3, 5), (), (0, 10 ** 9)])
        layouts = [vars(store.layout_of(path)) for path in ("a", "g/a", "g0")]
        due = [
            ("i2", (2, 3), -7, ("delta", "runs")), ("u4", (), 4294967295, ()), ("i1", (1, 4096), 0, ("zeros",) * 6),
        ]
        self.assertEqual([tuple(layout.values()) for layout in layouts], due)
        values = [1, 2, 3, 7, 8, 4, 5, 6, 9, 10, -7, -7, -7, -32768, 32767]
        self.assertEqual(store.read("a", whole((3, 5))), values)
        self.assertEqual(store.read("g/a", whole(())), [0])
        there = [store.chunk_pointer("a", grid) is not None for grid in ((0, 0), (0, 1), (1, 0), (1, 1))]
        self.assertEqual(there, [True, True, False, True])
        self.assertIsNone(store.chunk_pointer("g0", (0, 0)))

    def test_views(self):
        store = self.store
        pieces = (("a", (0, 1), (0, 0), (2, 2)), ("g/none", (5, 5), (1, 1), (1, 3)))
        self.assertEqual((store.pieces_of("g/v"), store.pieces_of("z")), (pieces, (("g/a", (), (), ()),)))
        self.assertEqual(store.read("g/v", whole((2, 4))), [2, 3, 0, 0, 5, 0, 0, 0])
        self.assertEqual((store.shape_of("z"), store.read("z", whole(()))), ((), [0]))

    def test_batches(self):
        self.assertEqual((self.store.batch, batches(self.disk)), (1, [0, 1]))
        self.assertEqual(snapshot(look_at(self.disk, 0)), [("", ["group", [], []])])
        self.assertEqual(seal_at(self.disk, len(self.disk) - 28), seal_at(self.disk, len(self.disk) - 56))

    def test_the_same_after_opening(self):
        again = open_store(self.disk.copied())
        self.assertEqual(again.batch, 1)
        self.assertEqual(snapshot(again), snapshot(self.store))
        self.store.discard()
        self.assertEqual(snapshot(self.store), snapshot(again))

    def test_the_file_is_sound(self):
        self.assertEqual(inspect(self.disk), [])

    def test_made_in_its_order(self):
        pointers = [self.store.chunk_pointer("a", grid) for grid in ((0, 0), (0, 1), (1, 1))]
        pointers.append(self.store.chunk_pointer("g/a", ()))
        self.assertEqual(pointers, sorted(pointers))

    def test_further_deeds(self):
        store = self.store
        store.resize("a", (5, 5))
        self.assertEqual(store.read("a", ("box", ((2, 1, 3), (3, 1, 2)))), [-32768, 32767, -7, -7, -7, -7])
        store.make_group("g/h/i/j")
        store.remove("g/v")
        store.commit()
        self.assertEqual(open_store(self.disk).paths(), ["", "a", "g", "g/a", "g/h", "g/h/i", "g/h/i/j", "g0", "z"])

    def test_the_dump_of_the_loaded_store(self):
        self.assertEqual(dump(self.store), TEXT)
        self.assertEqual(first_fault(TEXT), None)

    def test_small_texts(self):
        store = load(Disk([]), "group /")
        self.assertEqual((store.paths(), store.batch), ([""], 1))
        for text in ("group /\ntext t ", "group /\nlist l", "group /\ngroup a\ngroup a/b\ngroup a0"):
            self.assertEqual(dump(load(Disk([]), text)), text)

    def test_limits_that_are_kept(self):
        ten = "\n".join(["piece a" for _ in range(10)])
        names = sorted("n" + str(number) for number in range(20))
        attributes = "\n".join(["text " + name + " x" for name in names])
        for text in [
            "group /\n" + attributes, "group /\nlist n" + " " + " ".join(["9" * 30, "-" + "9" * 30] * 25),
            "group /\ntext n " + "x" * 200, "group /\nview v u1\nshape\nfill 0\n" + ten,
            "group /\nview v u1\nshape 1\nfill 0\npiece a " + "9" * 30 + " 0 1",
            "group /\narray a u1\nshape 1 1 1 1\nfill 255\nchunks 8 8 8 8\nfilters\nchunk 0 0 0 0 : 0" + " 255" * 4095,
            "group /\ngroup a\ngroup a/b\ngroup a/b/c\ngroup a/b/c/d\ngroup a/b/c/d/e\ngroup a/b/c/d/e/f",
        ]:
            self.assertEqual((fault_of(text), first_fault(text)), (None, None))
            self.assertEqual(dump(load(Disk([]), text)), text)


class FaultTests(unittest.TestCase):
    def refused(self, text, number):
        self.assertEqual(first_fault(text), number, text)
        self.assertEqual(fault_of(text), number, text)

    def test_texts_that_end_too_early(self):
        for count in range(len(LINES)):
            text = "\n".join(LINES[:count])
            ends = {0, 6, 7, 8, 9, 10, 16, 17, 18, 19, 25, 26, 30, 31, 32, 33, 35, 36, 37}
            if count == 0:
                self.refused(text, 1)
            elif count in ends:
                self.refused(text, count + 1)
            else:
                self.assertIsNone(fault_of(text))

    def test_empty_texts_and_empty_lines(self):
        self.refused("", 1)
        self.refused("\n", 1)
        self.refused("\n" + TEXT, 1)
        self.refused(TEXT + "\n", len(LINES) + 1)
        self.refused("group /\n", 2)
        for number in range(1, len(LINES) + 1):
            self.refused(with_line(number, "", LINES[number - 1]), number)

    def test_the_first_line(self):
        for line in (
            "group", "group a", "group /a", "group //", "array / i2", "view / i2", "Group /", "group / ", " group /", "group  /",
            "group ", "text t x", "shape", "/", "group / i2", "groups /",
        ):
            self.refused(with_line(1, line), 1)
        self.refused(with_line(1, "group /", "group /"), 2)

    def test_headers(self):
        for number, line in [
            (6, "array a i8"), (6, "array a"), (6, "array a i2 i2"), (6, "array a 2"), (6, "array i2"), (6, "array A i2"),
            (6, "array a/ i2"), (6, "array /a i2"), (6, "array / i2"), (6, "arrays a i2"), (6, "array a/b i2"), (6, "array  i2"),
            (15, "group g u1"), (15, "group"), (15, "group "), (15, "group G"), (15, "group " + "g" * 13), (15, "group g g"),
            (25, "view g/v"), (25, "view g/v i2 "), (25, "view i1 g/v"), (24, "group g/h/i/j/k/l/m"),
        ]:
            self.refused(with_line(number, line), number)

    def test_the_order_of_paths(self):
        self.refused(with_line(15, "group a"), 15)
        self.refused(with_line(15, "group 9"), 15)
        self.refused(with_line(15, "group /"), 15)
        self.refused(with_line(15, "group g", "group g"), 16)
        self.refused("group /\ngroup b\ngroup a", 3)
        self.refused("group /\ngroup a\ngroup a0\ngroup a/b", 4)
        self.refused("group /\ngroup a\ngroup a/b\ngroup a", 4)

    def test_parents(self):
        self.refused("group /\ngroup a/b", 2)
        self.refused("group /\ngroup a\ngroup b/c", 3)
        self.refused("group /\ngroup a\ngroup a/b/c", 3)
        self.refused("group /\nview a i1\nshape\nfill 0\ngroup a/b", 5)
        self.refused("group /\narray a i1\nshape\nfill 0\nchunks\nfilters\narray a/b i1", 7)

    def test_attributes(self):
        for number, line in [
            (2, "list"), (2, "list "), (2, "list empty "), (2, "list Empty"), (2, "list " + "e" * 13), (2, "list empty x"),
            (3, "list n 1  -2 0"), (3, "list n 1 -2 00"), (3, "list n 1 -2 -0"), (3, "list n +1 -2 0"), (3, "list n 01 -2 0"),
            (3, "list n " + "9" * 31), (3, "list n" + " 0" * 51), (3, "list a 1"), (3, "list empty 1"), (3, "lists n"),
            (4, "text"), (4, "text t"), (4, "text  t"), (4, "text T x"), (4, "text t " + "x" * 201), (4, "text n x"), (4, " text t x"),
            (7, "text unit"), (23, "text x"), (8, "list o"), (7, "list unit 1 "),
        ]:
            self.refused(with_line(number, line), number)
        self.refused(with_line(8, "list v"), 9)
        names = sorted("n" + str(number) for number in range(21))
        self.refused("group /\n" + "\n".join(["text " + name + " x" for name in names]), 22)
        self.refused("group /\n" + "\n".join(["list " + name for name in names] + ["group a"]), 22)

    def test_shapes_and_fill_values(self):
        for number, line in [
            (8, "shape 3 5 "), (8, "shape  3 5"), (8, "shape 3 -5"), (8, "shape 3 1000000001"), (8, "shape 1 1 1 1 1"),
            (8, "shape 3 05"), (8, "shape 3 x"), (8, "shapes 3 5"), (8, "fill -7"), (9, "fill"), (9, "fill "), (9, "fill -7 -7"),
            (9, "fill 32768"), (9, "fill -32769"), (9, "fill --7"), (9, "fill 7.0"), (9, "shape 3 5"), (9, "text v x"),
            (18, "fill 4294967296"), (18, "fill -1"), (27, "fill 128"), (32, "fill -0"), (38, "fill 65536"), (38, "fill -1"), (17, "shape "),
        ]:
            self.refused(with_line(number, line), number)

    def test_chunk_shapes_and_filters(self):
        for number, line in [
            (10, "chunks 2"), (10, "chunks 2 3 1"), (10, "chunks 2 0"), (10, "chunks 2 -3"), (10, "chunks 2 2049"), (10, "chunks"),
            (10, "chunks 2 3 "), (10, "chunk 2 3"), (10, "filters delta"), (11, "filters none"), (11, "filters delta runs "),
            (11, "filters  delta"), (11, "filters delta,runs"), (11, "filters" + " delta" * 7), (11, "filter"), (11, "filters "),
            (11, "filters Delta"), (19, "chunks 1"), (19, "chunks "), (33, "chunks 1 4097"), (28, "chunks 1 1"),
        ]:
            self.refused(with_line(number, line), number)

    def test_chunks(self):
        for number, line in [
            (12, "chunk 0 0 : 1 2 3 4 5"), (12, "chunk 0 0 : 1 2 3 4 5 6 7"), (12, "chunk 0 0 1 2 3 4 5 6"),
            (12, "chunk 0 0 : : 1 2 3 4 5 6"), (12, "chunk 0 0: 1 2 3 4 5 6"), (12, "chunk 0 0 : 1 2 3 4 5 32768"),
            (12, "chunk 0 : 1 2 3 4 5 6"), (12, "chunk 0 0 0 : 1 2 3 4 5 6"), (12, "chunk 0 -1 : 1 2 3 4 5 6"),
            (12, "chunk 0 00 : 1 2 3 4 5 6"), (12, "chunk 0 2 : -7 -7 -7 -7 -7 -7"), (12, "chunk 2 0 : -7 -7 -7 -7 -7 -7"),
            (12, "chunk 0 0 : 1 2 3 4 5 6 "), (12, "chunk 0 0 :  1 2 3 4 5 6"), (12, "chunk 0 0 :"), (12, "chunk"),
            (13, "chunk 0 1 : 7 8 9 9 10 -7"), (13, "chunk 0 1 : 7 8 -7 9 10 0"), (13, "chunk 0 0 : 1 2 3 4 5 6"),
            (14, "chunk 1 1 : 0 0 -7 0 -7 -7"), (14, "chunk 1 1 : 0 0 -7 -7 -7 0"), (14, "chunk 0 1 : 7 8 -7 9 10 -7"),
            (14, "chunk 0 0 : 1 2 3 4 5 6"), (21, "chunk 0 : 0"), (21, "chunk : 0 0"), (21, "chunk 0"), (21, "chunk : -1"),
            (21, "chunk :"), (21, "chunk : : 0"), (12, "piece a 0 0 0 0 1 1"), (12, "text v x"),
            (12, "chunk 0 -1 : -7 -7 -7 -7 -7 -7"), (12, "chunk -1 0 : -7 -7 -7 -7 -7 -7"),
        ]:
            self.refused(with_line(number, line), number)
        self.refused(with_line(21, "chunk : 0", "chunk : 0"), 22)
        self.refused(with_line(34, LINES[33], "chunk 0 0 :" + " 0" * 4096), 35)

    def test_pieces(self):
        for number, line in [
            (28, "piece a 0 1 0 0 2"), (28, "piece a 0 1 0 0 2 2 2"), (28, "piece"), (28, "piece a"), (28, "piece / 0 1 0 0 2 2"),
            (28, "piece A 0 1 0 0 2 2"), (28, "piece a 0 -1 0 0 2 2"), (28, "piece a 0 1 -1 0 2 2"), (28, "piece a 0 1 0 0 2 0"),
            (28, "piece a 0 1 0 0 3 2"), (28, "piece a 0 1 0 0 2 5"), (28, "piece a 0 1 1 0 2 2"), (28, "piece a 0 01 0 0 2 2"),
            (28, "piece a 0 1 : 0 0 : 2 2"), (28, "piece a  0 1 0 0 2 2"), (28, "piece a 0 1 0 0 2 2 "), (28, "piece  0 1 0 0 2 2"),
            (28, "piece a " + "9" * 31 + " 1 0 0 2 2"), (28, "chunk 0 0 : 1"), (39, "piece g/a 0 0 1"), (39, "piece"), (39, "piece "),
            (39, "piece g/a "), (39, "piece g//a"),
        ]:
            self.refused(with_line(number, line), number)
        self.refused(with_line(39, *["piece g/a"] * 11), 49)

    def test_lines_at_other_places(self):
        # Each line of the text put before each other one.
        for line in sorted(set(LINES)):
            for number in range(1, len(LINES) + 1):
                text = with_line(number, line, LINES[number - 1])
                self.assertEqual(fault_of(text), first_fault(text), (line, number))

    def test_lines_left_out_doubled_and_exchanged(self):
        for number in range(1, len(LINES) + 1):
            line = LINES[number - 1]
            texts = [with_line(number), with_line(number, line, line)]
            if number < len(LINES):
                texts.append("\n".join(LINES[:number - 1] + [LINES[number], line] + LINES[number + 1:]))
            for text in texts:
                self.assertEqual(fault_of(text), first_fault(text), (number, text))

    def test_words_changed_left_out_and_doubled(self):
        others = ["", "0", "1", "-1", "-0", "+1", "01", "x", ":", "/", "a", "i2", "2000000000", "9" * 31, "group", "text"]
        refused = 0
        for number, line in enumerate(LINES, 1):
            words = line.split(" ")
            for at in range(len(words)):
                for put in [[], [words[at]] * 2] + [[other] for other in others] + [[words[at], other] for other in others]:
                    text = with_line(number, " ".join(words[:at] + put + words[at + 1:]))
                    due = first_fault(text)
                    self.assertEqual(fault_of(text), due, text)
                    refused += due is not None
        self.assertTrue(refused > 1000)

    def test_a_space_more_and_a_sign_less_or_other(self):
        for number, line in enumerate(LINES, 1):
            for at in range(len(line) + 1):
                for changed in (line[:at] + " " + line[at:], line[:at] + line[at + 1:], line[:at] + "0" + line[at + 1:]):
                    text = with_line(number, changed)
                    self.assertEqual(fault_of(text), first_fault(text), text)

    def test_the_disk_stays_empty(self):
        for text in ("", "group", TEXT + "\n", "\n".join(LINES[:19])):
            disk = Disk([])
            self.assertEqual(error_of(lambda: load(disk, text))[0], InvalidDump)
            self.assertEqual(bytes_of(disk), [])


if __name__ == "__main__":
    unittest.main()
