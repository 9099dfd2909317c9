"""Scripts of deeds (points 60 and 61)."""

import unittest

from tessera.disks import Disk
from tessera.opening import new_store, open_store
from tessera.scripts import run_line, run_script
from tessera.selections import whole

from tests.test_cuts import History
from tests.test_reckoning import Deeds
from tests.tools import damaged_disk, error_of, snapshot

THIRTY = "9" * 30
THIRTY_ONE = "1" + "0" * 30


def example_store():
    """A store with a group, arrays of two dimensions and of none, a view and attributes."""
    store = new_store(Disk([]))
    run_script(store, "\n".join([
        "group g", "array g/a i2 2 3 : 2 2 : -1 delta runs", "array s u1 : : 7", "view v i2 3 : 9",
        "piece v g/a 0 0 : 0 : 1", "text g/a unit metres", "list / n 1 2", "write g/a 0:1:1,0:1:3 4 5 6", "commit",
    ]))
    return store


def word(path):
    return path or "/"


def numbers(*lists):
    return [str(number) for values in lists for number in values]


def line_of(name, arguments, named):
    """The line that asks for a deed, or None if no line does."""
    words = [word(part) for part in arguments[:1]]
    rest = list(arguments[1:])
    if name in ("commit", "discard"):
        return name
    if name == "make_group":
        words.insert(0, "group")
    elif name in ("remove", "move", "duplicate"):
        words = [{"duplicate": "copy"}.get(name, name)] + words + [word(part) for part in rest]
    elif name == "make_array":
        words = ["array"] + words + [rest[0]] + numbers(rest[1]) + [":"] + numbers(named["chunks"]) + [":"]
        words += [str(named.get("fill", 0))] + list(named.get("filters", ()))
    elif name == "make_view":
        if named["pieces"]:
            return None
        words = ["view"] + words + [rest[0]] + numbers(rest[1]) + [":", str(named.get("fill", 0))]
    elif name == "add_piece":
        path, source, target, counts = rest[0]
        words = ["piece"] + words + [word(path)] + numbers(source) + [":"] + numbers(target) + [":"] + numbers(counts)
    elif name == "set_attribute":
        if isinstance(rest[1], str):
            return None if "\n" in rest[1] else f"text {words[0]} {rest[0]} {rest[1]}"
        if any(abs(number) >= 10 ** 30 for number in rest[1]):
            return None
        words = ["list"] + words + [rest[0]] + numbers(rest[1])
    elif name == "remove_attribute":
        words = ["forget"] + words + rest
    elif name == "write":
        if rest[0][0] == "points":
            return None
        ranges = ",".join(":".join(numbers(part)) for part in rest[0][1]) or "*"
        words = ["write"] + words + [ranges] + numbers(rest[1])
    elif name == "resize":
        words = ["resize"] + words + numbers(rest[0])
    return " ".join(words)


class ExampleTests(unittest.TestCase):
    def test_the_example(self):
        script = (
            "array a i2 2 3 : 2 2 : 0 delta\nwrite a 0:1:1,0:1:3 4 5 6\nread a 0:1:2,1:1:2\nread b *\nwrite a 0:1:1"
        )
        due = ["ok", "ok", "5 6 0 0", "NotFound", "InvalidSelection"]
        self.assertEqual(run_script(new_store(Disk([])), script), due)


class FormTests(unittest.TestCase):
    def setUp(self):
        self.store = example_store()

    def says(self, line, reply):
        self.assertEqual(run_line(self.store, line), reply, line)

    def test_groups(self):
        self.says("group h", "ok")
        self.says("group g/h", "ok")
        self.assertEqual((self.store.kind_at("h"), self.store.kind_at("g/h")), ("group", "group"))

    def test_arrays(self):
        self.says("array b u4 3 2 : 2 1 : 5", "ok")
        layout = self.store.layout_of("b")
        self.assertEqual(self.store.shape_of("b"), (3, 2))
        self.assertEqual((layout.kind, layout.chunk_shape, layout.fill, layout.filters), ("u4", (2, 1), 5, ()))
        self.says("array c i1 0 1 2 3 : 1 1 1 1 : -128 runs zeros runs", "ok")
        layout = self.store.layout_of("c")
        self.assertEqual((layout.fill, layout.filters), (-128, ("runs", "zeros", "runs")))
        self.says("array d i1 : : 0", "ok")
        self.assertEqual((self.store.shape_of("d"), self.store.layout_of("d").chunk_shape), ((), ()))
        self.says("array e i1 : : 0 planes", "ok")
        self.assertEqual(self.store.layout_of("e").filters, ("planes",))

    def test_views_and_pieces(self):
        self.says("view w u1 2 2 : 4", "ok")
        self.assertEqual((self.store.shape_of("w"), self.store.pieces_of("w")), ((2, 2), ()))
        self.assertEqual(self.store.read("w", whole((2, 2))), [4] * 4)
        self.says("text w unit miles", "ok")
        self.says("piece w g/a 0 1 : 1 0 : 1 2", "ok")
        self.says("piece w none 0 0 : 0 0 : 1 1", "ok")
        self.assertEqual(
            self.store.pieces_of("w"), (("g/a", (0, 1), (1, 0), (1, 2)), ("none", (0, 0), (0, 0), (1, 1)))
        )
        self.assertEqual(self.store.attributes_of("w"), [("unit", "miles")])
        self.says("read w 0:1:2,0:1:2", "4 4 5 6")
        self.says("view x i1 : 0", "ok")
        self.says("piece x s : :", "ok")
        self.assertEqual(self.store.pieces_of("x"), (("s", (), (), ()),))
        self.says("read x *", "7")

    def test_removing_moving_and_copying(self):
        self.says("copy g h", "ok")
        self.says("move g h/i", "ok")
        self.assertEqual(self.store.paths(), ["", "h", "h/a", "h/i", "h/i/a", "s", "v"])
        self.says("remove h/i", "ok")
        self.assertEqual(self.store.paths(), ["", "h", "h/a", "s", "v"])

    def test_texts(self):
        for line, name, value in [
            ("text g t some words", "t", "some words"), ("text g u  two  spaces  ", "u", " two  spaces  "),
            ("text g v ", "v", ""), ("text g w  ", "w", " "), ("text g x : :", "x", ": :"), ("text g y 1", "y", "1"),
            ("text g z " + "x" * 200, "z", "x" * 200), ("text / t -", "t", "-"),
        ]:
            self.says(line, "ok")
            path = "" if line.startswith("text /") else "g"
            self.assertIn((name, value), self.store.attributes_of(path))

    def test_lists(self):
        self.says("list g l", "ok")
        self.says(f"list g m 0 -1 {THIRTY} -{THIRTY}", "ok")
        due = [("l", ()), ("m", (0, -1, int(THIRTY), -int(THIRTY)))]
        self.assertEqual(self.store.attributes_of("g"), due)
        self.says("list / n 5", "ok")
        self.says("list s n" + " 1" * 50, "ok")
        self.assertEqual(self.store.attributes_of(""), [("n", (5,))])

    def test_forgetting(self):
        self.says("forget / n", "ok")
        self.says("forget g/a unit", "ok")
        self.assertEqual((self.store.attributes_of(""), self.store.attributes_of("g/a")), ([], []))

    def test_writing_and_reading(self):
        self.says("read g/a 0:1:2,0:1:3", "4 5 6 -1 -1 -1")
        self.says("write g/a 0:1:2,0:2:2 10 -20 30 40", "ok")
        self.says("read g/a 0:1:2,0:1:3", "10 5 -20 30 -1 40")
        self.says("read g/a 1:7:1,2:1:1", "40")
        self.says("read g/a 0:1:0,5:1:9", "")
        self.says("write g/a 0:1:0,0:1:1", "ok")
        self.says("read s *", "7")
        self.says("write s * 8", "ok")
        self.says("read s *", "8")
        self.says("read v 0:1:3", "9 9 9")

    def test_resizing(self):
        self.says("resize g/a 1 5", "ok")
        self.assertEqual(self.store.shape_of("g/a"), (1, 5))
        self.says("read g/a 0:1:1,0:1:5", "4 5 6 -1 -1")
        self.says("resize s", "ok")

    def test_committing_and_discarding(self):
        self.says("group h", "ok")
        self.says("discard", "ok")
        self.says("names /", "g s v")
        self.says("group i", "ok")
        self.says("commit", "ok")
        self.says("discard", "ok")
        self.says("names /", "g i s v")
        self.assertEqual(self.store.batch, 2)

    def test_names(self):
        self.says("names g", "a")
        self.says("names /", "g s v")
        self.says("group empty", "ok")
        self.says("names empty", "")

    def test_lines_without_characters(self):
        before = snapshot(self.store)
        self.says("", "")
        self.assertEqual(snapshot(self.store), before)

    def test_the_root_group_is_written_as_a_slash(self):
        for line, reply in [
            ("group /", "InvalidPath"), ("remove /", "InvalidPath"), ("move / x", "InvalidPath"),
            ("move g /", "InvalidPath"), ("copy / x", "InvalidPath"), ("copy g /", "InvalidPath"),
            ("read / *", "NotAnArray"), ("write / *", "NotAnArray"), ("resize / 1", "NotAnArray"),
            ("piece v / 0 : 0 : 1", "InvalidPart"), ("piece / g 0 : 0 : 1", "NotAnArray"), ("text / t x", "ok"),
            ("forget / t", "ok"), ("names /", "g s v"), ("array / u1 : : 0", "InvalidPath"), ("view / u1 : 0", "InvalidPath"),
        ]:
            self.says(line, reply)


class RefusalTests(unittest.TestCase):
    """What the deeds refuse: the reply is the name of the error's class, and nothing changes."""

    def setUp(self):
        self.store = example_store()
        self.before = snapshot(self.store)

    def check(self, rows):
        for line, reply in rows:
            self.assertEqual(run_line(self.store, line), reply, line)
            self.assertEqual(snapshot(self.store), self.before, line)

    def test_paths(self):
        self.check([
            ("group A", "InvalidPath"), ("group a//b", "InvalidPath"), ("group /a", "InvalidPath"),
            ("group g", "AlreadyThere"), ("group x/y", "NotAGroup"), ("group s/y", "NotAGroup"),
            ("remove nothing", "NotFound"), ("move g g/h", "IntoItself"), ("copy g g", "IntoItself"),
            ("move g s", "AlreadyThere"), ("copy g v/x", "NotAGroup"), ("move nothing x", "NotFound"),
            ("names g/a", "NotAGroup"), ("names nothing", "NotFound"), ("names a-b", "InvalidPath"),
        ])

    def test_parts(self):
        self.check([
            ("array b i8 2 : 2 : 0", "InvalidPart"), ("array b 2 2 : 2 : 0", "InvalidPart"),
            ("array b i2 -1 : 2 : 0", "InvalidShape"), (f"array b i2 {THIRTY} : 2 : 0", "InvalidShape"),
            ("array b i2 1 1 1 1 1 : 1 1 1 1 1 : 0", "InvalidShape"), ("array b i2 2 : 0 : 0", "InvalidPart"),
            ("array b i2 2 : : 0", "InvalidPart"), ("array b i2 : 2 : 0", "InvalidPart"),
            ("array b i2 2 : 2 : 0 none", "InvalidPart"), ("array b i2 2 : 2 : 0" + " runs" * 7, "InvalidPart"),
            ("array b i2 2 : 2 : 40000", "InvalidValue"), ("array b i2 2 : 2 : 0 1", "InvalidPart"),
            ("view w u1 2 : -1", "InvalidValue"), ("view w u9 2 : 0", "InvalidPart"), ("view w u1 -2 : 0", "InvalidShape"),
            ("piece v g/a 0 : 3 : 1", "InvalidPart"), ("piece v g/a 0 0 : 0 : 1", "InvalidPart"),
            ("piece v g/a : :", "InvalidPart"), ("piece g/a v 0 : 0 : 1", "NotAnArray"), ("piece x v : :", "NotFound"),
        ])

    def test_attributes(self):
        self.check([
            ("text g Name x", "InvalidPart"), ("list g n-1 1", "InvalidPart"), ("text g t " + "x" * 201, "InvalidPart"),
            ("list g l" + " 1" * 51, "InvalidPart"), ("text nothing t x", "NotFound"), ("forget g t", "NoAttribute"),
            ("forget nothing t", "NotFound"), ("list A n 1", "InvalidPath"), ("list g 1 x", "bad line"),
        ])

    def test_selections_and_values(self):
        self.check([
            ("read g/a 0:1:3,0:1:1", "InvalidSelection"), ("read g/a 0:1:1", "InvalidSelection"),
            ("read g/a *", "InvalidSelection"), ("read g/a 0:0:1,0:1:1", "InvalidSelection"),
            ("read g/a -1:1:1,0:1:1", "InvalidSelection"), ("read g/a 0:1:-1,0:1:1", "InvalidSelection"),
            ("read g/a 0:1:1,0:1:1,0:1:1,0:1:1,0:1:1", "InvalidSelection"), ("read s 0:1:1", "InvalidSelection"),
            (f"read g/a {THIRTY}:1:1,0:1:1", "InvalidSelection"), ("read g *", "NotAnArray"),
            ("write g/a 0:1:1,0:1:3 1 2", "WrongCount"), ("write g/a 0:1:1,0:1:1", "WrongCount"),
            ("write g/a 0:1:1,0:1:1 40000", "InvalidValue"), ("write v 0:1:1 1", "NotAnArray"),
            ("resize g/a 2", "InvalidShape"), ("resize g/a 2 -1", "InvalidShape"), ("resize v 2", "NotAnArray"),
            ("resize s 1", "InvalidShape"), ("write s * 256", "InvalidValue"),
        ])

    def test_too_much_is_picked(self):
        run_script(self.store, "array big u1 100001 : 4096 : 0\narray wide u1 400 400 : 8 8 : 0")
        self.before = snapshot_without(self.store, ["big", "wide"])
        for line in ("read big 0:1:100001", "read wide 0:1:400,0:1:400", "write big 0:1:100001 1"):
            self.assertEqual(run_line(self.store, line), "TooLarge")
        self.assertEqual(run_line(self.store, "read big 0:1:100001 1"), "bad line")
        self.assertEqual(len(run_line(self.store, "read big 0:1:100000").split(" ")), 100000)
        self.assertEqual(snapshot_without(self.store, ["big", "wide"]), self.before)

    def test_damage(self):
        disk = Disk([])
        store = new_store(disk)
        run_script(store, "array a u1 4 : 2 : 0\nwrite a 0:1:4 1 2 3 4\ncommit")
        store = open_store(damaged_disk(disk, store.chunk_pointer("a", (1,)), 2))
        script = "read a 0:1:4\nread a 0:1:2\nwrite a 3:1:1 9\nwrite a 0:1:1 9\nread a 0:1:2"
        self.assertEqual(run_script(store, script), ["Damaged", "1 2", "Damaged", "ok", "9 2"])


def snapshot_without(store, left_out):
    """What can be read of the store, except for arrays that are too large for it."""
    return [(path, store.kind_at(path), store.attributes_of(path)) for path in store.paths() if path not in left_out]


GOOD_LINES = [
    "group h", "array b i2 2 3 : 2 2 : 0 delta runs", "array c u1 : : 0", "view w i2 2 : 9", "piece v g/a 0 : 0 : 1",
    "remove g", "move g h", "copy g h", "text g t some text", "list g l 1 2", "forget g/a unit",
    "write g/a 0:1:1,0:1:2 7 8", "resize g/a 2 2", "commit", "discard", "read g/a 0:1:1,0:1:2", "names g",
]


class BadLineTests(unittest.TestCase):
    def setUp(self):
        self.store = example_store()
        self.before = snapshot(self.store)

    def check(self, lines):
        for line in lines:
            self.assertEqual(run_line(self.store, line), "bad line", line)
            self.assertEqual(snapshot(self.store), self.before, line)
            self.assertEqual(self.store.batch, 1)

    def test_no_form(self):
        self.check([
            "Group h", "groups h", "make h", "COMMIT", "h", ":", "*", "/", "ok", "array", "group", "view", "piece",
            "remove", "move", "copy", "text", "list", "forget", "write", "resize", "read", "names", "group\th", "1",
        ])

    def test_a_wrong_number_of_words(self):
        self.check([
            "group h i", "remove g s", "remove", "move g", "move g h i", "copy g", "copy g h i", "forget g", "forget g t u",
            "commit now", "discard all", "read g/a", "read g/a 0:1:1,0:1:1 5", "names", "names g s", "write g/a", "list g",
            "text g", "text g t", "array b", "array b i2", "array b i2 2 : 2 :", "array b i2 : :", "view w i2 2 :",
            "view w i2 2 : 0 1", "view w", "piece v", "piece v g/a", "text g/a", "commit commit",
        ])

    def test_colons(self):
        self.check([
            "array b i2 2 : 2", "array b i2 2 2 0", "array b i2 2 : 2 : 0 :", "array b i2 2 : 2 : 0 : delta",
            "array b i2 2 : : 2 : 0", "array b i2 : 2 : 2 : 0", "array b : i2 2 : 2 : 0", "array b i2 2 : 2 0 delta",
            "array b i2 2 : 2 : : 0", "view w i2 2", "view w i2 2 : : 0", "view w i2 2 : 0 :", "view w i2 : 2 : 0",
            "piece v g/a 0 : 0", "piece v g/a 0 0 1", "piece v g/a 0 : 0 : 1 :", "piece v g/a : 0 : 0 : 1",
            "piece v g/a 0 : 0 1", "list g l : 1", "list g l 1 : 2", "resize g/a 2 : 2", "write g/a 0:1:1,0:1:1 : 7",
            "group : h", "commit :", "array b i2 2: 2 : 0", "array b i2 2 :2 : 0",
        ])

    def test_colons_where_a_path_or_a_name_is_due(self):
        self.check([
            "group :", "remove :", "names :", "move g :", "copy : h", "read : 0:1:1", "write : 0:1:1 1", "resize : 2",
            "forget g :", "forget : unit", "list g : 1", "list : 7 1", "list g : 7 1", "text : t x", "text g : x",
            "array : i2 2 : 2 : 0", "array b : 2 : 2 : 0", "array : 1 2 : 2 : 0", "view : i2 2 : 0", "view w : 2 : 0",
            "piece : g/a 0 : 0 : 1", "piece v : 0 : 0 : 1", "piece : 0 1 0 : 0 : 1", "array : i2 2 : 0",
        ])

    def test_words_that_are_no_integers(self):
        wrong = ["-0", "+1", "01", "-01", "00", "1.5", "x", "--1", "-", "1-", "0x1", "1_0", "1e3", THIRTY_ONE, "-" + THIRTY_ONE]
        for number in wrong:
            self.check([
                f"array b i2 {number} : 2 : 0", f"array b i2 2 : {number} : 0", f"array b i2 2 : 2 : {number}",
                f"array b i2 2 {number} : 2 2 : 0", f"view w i2 {number} : 0", f"view w i2 2 : {number}",
                f"piece v g/a {number} : 0 : 1", f"piece v g/a 0 : {number} : 1", f"piece v g/a 0 : 0 : {number}",
                f"list g l {number}", f"list g l 1 {number}", f"write g/a 0:1:1,0:1:1 {number}",
                f"resize g/a 2 {number}", f"read g/a {number}:1:1,0:1:1", f"read g/a 0:{number}:1,0:1:1",
                f"write g/a 0:1:1,0:1:{number} 1", f"resize nothing {number}", f"read nothing 0:1:{number}",
            ])

    def test_integers_of_thirty_digits(self):
        for number in (THIRTY, "-" + THIRTY):
            for line, reply in [
                (f"list g l {number}", "ok"), (f"resize g/a {number} 1", "InvalidShape"),
                (f"write g/a 0:1:1,0:1:1 {number}", "InvalidValue"), (f"read g/a 0:1:{number},0:1:1", "InvalidSelection"),
                (f"array b i2 2 : {number} : 0", "InvalidPart"), (f"array b i2 2 : 2 : {number}", "InvalidValue"),
            ]:
                self.assertEqual(run_line(self.store, line), reply, line)
        self.assertEqual(self.store.attributes_of("g"), [("l", (-int(THIRTY),))])

    def test_selections(self):
        for selection in [
            "0:1", "0", "0:1:1:1", "0:1:1,0:1:1:1", "0:1:1,", ",0:1:1", "0:1:1,,0:1:1", "0:1:", ":1:1", "::", ":", ",",
            "**", "*,0:1:1", "0:1:*", "0:1:1;0:1:1", "0-1-1", "(0:1:1)", "0:1:1,0:1", "*:1:1",
        ]:
            self.check([f"read g/a {selection}", f"write g/a {selection} 1", f"read nothing {selection}"])

    def test_empty_words(self):
        lines = [" ", "  "]
        for line in GOOD_LINES:
            if line.startswith("text "):
                continue
            lines += [" " + line, line + " "] + [line[:at] + " " + line[at:] for at in range(len(line)) if line[at] == " "]
        self.check(lines)
        self.check([" text g t x", "text  g t x", "text g  t x", "text  g t", "text   "])

    def test_the_good_lines_are_good(self):
        for line in GOOD_LINES:
            self.assertNotEqual(run_line(example_store(), line), "bad line")

    def test_a_bad_line_is_refused_before_the_deed_looks_at_it(self):
        self.check(["read nothing 0:1:x", "array g i2 2 : 2 : x", "write nothing 0:1:1 x", "group A B"])


class ScriptTests(unittest.TestCase):
    def test_lines_in_order(self):
        store = new_store(Disk([]))
        script = "group g\n\nbad\ngroup g\narray g/a u1 2 : 2 : 3\nread g/a 0:1:2\n"
        due = ["ok", "", "bad line", "AlreadyThere", "ok", "3 3", ""]
        self.assertEqual(run_script(store, script), due)
        self.assertEqual(run_script(store, "names /"), ["g"])
        self.assertEqual(run_script(store, "\n\n"), ["", "", ""])

    def test_a_refused_line_changes_nothing_and_the_next_one_is_run(self):
        store = example_store()
        before = snapshot(store)
        replies = run_script(store, "group x/y\nwrite g/a 0:1:9,0:1:1 5\nnonsense\nmove g g/h\nnames g")
        self.assertEqual(replies, ["NotAGroup", "InvalidSelection", "bad line", "IntoItself", "a"])
        self.assertEqual(snapshot(store), before)

    def test_a_script_against_the_same_deeds_one_by_one(self):
        refused = 0
        for seed in range(12):
            deeds = Deeds(5000 + seed)
            disk, other_disk = Disk([]), Disk([])
            store, other = new_store(disk), new_store(other_disk)
            lines, due = [], []
            for _ in range(100):
                name, arguments, named = deeds.next()
                line = line_of(name, arguments, named)
                if line is not None:
                    error = error_of(lambda: getattr(store, name)(*arguments, **named))
                    error_of(lambda: getattr(deeds.plain, name)(*arguments, **named))
                    lines.append(line)
                    due.append("ok" if error is None else error[0].__name__)
                    refused += error is not None
            self.assertEqual(run_script(other, "\n".join(lines)), due)
            self.assertEqual(snapshot(other), snapshot(store))
            self.assertEqual(other_disk.part(0, len(other_disk)), disk.part(0, len(disk)))
        self.assertTrue(50 < refused < 600)

    def test_cuts_of_what_a_script_leaves(self):
        # Each moment in between is a moment of the same row of deeds.
        disk = Disk([])
        history = History(disk, new_store(disk))
        for script in (
            "group g\narray g/a i2 4 : 2 : 0 delta\nbad\ncommit", "write g/a 0:1:3 1 2 3\nread g/a 0:1:4\ncommit",
            "remove g\ndiscard\ncopy g h\nresize h/a 1\ngroup g\ncommit", "move g i\ntext i t  x \ncommit",
        ):
            run_script(history.store, script)
            history.note()
        for count in range(history.kept[0][0], len(disk) + 1, 3):
            left = disk.copied()
            left.cut(count)
            store = open_store(left)
            self.assertEqual((store.batch, snapshot(store)), history.shown_at(count))


if __name__ == "__main__":
    unittest.main()
