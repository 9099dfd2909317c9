"""What the document promises over the whole program (points 1, 2, 40, 44, 45 and 61)."""

import copy
import importlib
import pathlib
import random
import unittest

from tessera import errors
from tessera.disks import Disk
from tessera.dumps import dump
from tessera.errors import Damaged
from tessera.evaluating import evaluate, expression_shape, store_expression
from tessera.expressions import depth, format_expression, is_expression, paths_of
from tessera.history import batches, changed_chunks, changed_paths, look_at
from tessera.inspecting import compacted, inspect, is_sound, live_pointers
from tessera.loading import load
from tessera.opening import new_store, open_store
from tessera.plain import PlainArray
from tessera.repairing import repaired
from tessera.scripts import run_script
from tessera.selections import whole
from tessera.sums import first_difference, summary

from tests.plain_store import PlainStore
from tests.test_cuts import History
from tests.test_reckoning import Deeds
from tests.tools import damaged_disk, error_of, outcome, snapshot

SCRIPT = """group g
array g/a i2 3 4 : 2 2 : -1 delta runs
write g/a 0:1:3,0:2:2 1 2 3 4 5 6
text g unit some metres
view v u1 2 2 : 9
piece v g/a 0 2 : 0 0 : 2 1
commit
copy g h
resize h/a 2 5
write h/a 1:1:1,0:1:5 7 8 9 10 11
list h n 1 -2
commit
move v w
remove g
array s u4 : : 7 planes
commit"""


def bytes_of(disk):
    return disk.part(0, len(disk))


def script_disk():
    disk = Disk([])
    run_script(new_store(disk), SCRIPT)
    return disk


def made_disks():
    """Disks that were loaded, compacted, repaired, and written by a script."""
    disk = script_disk()
    loaded = Disk([])
    load(loaded, dump(open_store(disk.copied())))
    return [disk, loaded, compacted(disk), repaired(damaged_disk(disk, live_pointers(disk)[3]))[0]]


class WholeLifeTests(unittest.TestCase):
    def test_cuts_of_files_that_were_made_in_other_ways(self):
        for disk in made_disks():
            history = History(disk.copied(), open_store(disk.copied()))
            history.store = open_store(history.disk)
            run_script(history.store, "group new\narray new/b u1 5 : 2 : 0\nwrite new/b 0:1:5 1 2 3 4 5")
            history.commit()
            run_script(history.store, "remove new/b\ncopy h new/h\nmove s t")
            history.commit()
            for count in range(history.kept[0][0], len(history.disk) + 1, 3):
                left = Disk(history.disk.part(0, count))
                store = open_store(left)
                self.assertEqual((store.batch, snapshot(store)), history.shown_at(count))

    def test_a_loaded_file_that_is_cut_has_one_of_its_two_batches(self):
        disk = made_disks()[1]
        shown = [snapshot(look_at(disk, batch)) for batch in (0, 1)]
        first = len(bytes_of(new_disk())) - 28
        for count in range(first, len(disk) + 1):
            store = open_store(Disk(disk.part(0, count)))
            self.assertEqual(store.batch, 1 if count >= len(disk) - 28 else 0)
            self.assertEqual(snapshot(store), shown[store.batch])

    def test_each_changed_byte_of_such_files(self):
        for disk in made_disks():
            shown = snapshot(open_store(disk.copied()))
            text = dump(open_store(disk.copied()))
            for at in range(0, len(disk), 2):
                broken = disk.copied()
                broken.change(at, (disk.part(at, 1)[0] + 1) % 256)
                store = open_store(broken)
                for ask, due in ((snapshot, shown), (dump, text)):
                    word, got = outcome(lambda: ask(store))
                    if word == "damaged":
                        self.assertTrue(got[0] <= at < sum(got))
                    else:
                        self.assertEqual((word, got), ("gives", due))

    def test_from_one_form_to_the_next(self):
        for seed in range(400, 406):
            deeds = Deeds(seed)
            store = new_store(Disk([]))
            for _ in range(80):
                name, arguments, named = deeds.next()
                error = error_of(lambda: getattr(deeds.plain, name)(*arguments, **named))
                self.assertEqual(error_of(lambda: getattr(store, name)(*arguments, **named)), error)
            disk = Disk([])
            store = load(disk, dump(store))
            for make in (compacted, lambda disk: repaired(disk)[0], compacted):
                disk = make(disk)
                store = open_store(disk)
                self.assertEqual(snapshot(store), snapshot(deeds.plain))
                self.assertTrue(is_sound(disk))
                self.assertEqual(batches(disk), [0])
            for _ in range(40):
                name, arguments, named = deeds.next()
                if name != "discard":
                    error = error_of(lambda: getattr(deeds.plain, name)(*arguments, **named))
                    self.assertEqual(error_of(lambda: getattr(store, name)(*arguments, **named)), error)
            self.assertEqual(snapshot(store), snapshot(deeds.plain))

    def test_only_seals_have_bytes_above_249(self):
        for disk in made_disks():
            above = [byte for byte in bytes_of(disk) if byte > 249]
            self.assertEqual(above, [255, 254] * (2 * len(batches(disk))))

    def test_all_texts_are_ascii(self):
        self.assertTrue(dump(open_store(script_disk())).isascii())


def new_disk():
    disk = Disk([])
    new_store(disk)
    return disk


class AlikeTests(unittest.TestCase):
    """Point 40: how arrays are divided into chunks and filtered does not matter."""

    def test_the_same_deeds_on_arrays_of_other_layouts(self):
        for seed in range(8):
            choose = random.Random(seed)
            store = new_store(Disk([]))
            shape = tuple([choose.randrange(1, 6) for _ in range(choose.randrange(4))])
            paths = ["a0", "a1", "a2"]
            for number, path in enumerate(paths):
                chunks = tuple([choose.randrange(1, 5) for _ in shape])
                store.make_array(path, "i2", shape, chunks=chunks, fill=4, filters=[(), ("runs",), ("planes", "zeros")][number])
            for _ in range(6):
                box = ("box", tuple([(0, 1, choose.randrange(size + 1)) for size in shape]))
                values = [choose.randrange(-5, 5) for _ in store.read("a0", box)]
                new = tuple([choose.randrange(6) for _ in shape])
                for path in paths:
                    store.write(path, box, values)
                    store.resize(path, new)
                shape = new
                for path in paths[1:]:
                    self.assertIsNone(first_difference(store, "a0", path))
                    self.assertEqual(summary(store, path, whole(shape)), summary(store, "a0", whole(shape)))
                self.assertEqual(evaluate(store, ("sub", ("path", "a1"), ("path", "a2")), whole(shape)), [0] * len(store.read("a0", whole(shape))))


class ConventionTests(unittest.TestCase):
    def test_every_error_class_of_the_package(self):
        folder = pathlib.Path(errors.__file__).parent
        classes = set()
        for file in sorted(folder.glob("*.py")):
            module = importlib.import_module("tessera." + file.stem) if file.stem != "__init__" else errors
            classes |= {thing for thing in vars(module).values() if isinstance(thing, type) and issubclass(thing, Exception)}
        for one in classes - {errors.TesseraError}:
            self.assertEqual(one.__bases__, (errors.TesseraError,))
        self.assertTrue(len(classes) > 20)

    def test_no_function_modifies_its_arguments(self):
        store = new_store(Disk([]))
        run_script(store, SCRIPT)
        store.make_array("b", "i2", (3,), chunks=(2,))
        store.make_array("c", "i2", (3,), chunks=(2,))
        expression = ("add", ("path", "b"), ("shift", ("path", "c"), (1,)))
        values, pieces, box = [1, 2, 3], [("b", (0,), (0,), (2,))], ("box", ((0, 1, 3),))
        attributes = ("n", (1, 2))
        told = copy.deepcopy((expression, values, pieces, box, attributes))
        store.write("b", box, values)
        store.make_view("x", "i2", (3,), pieces=pieces)
        store.add_piece("x", ("c", (0,), (2,), (1,)))
        store.set_attribute("x", *attributes)
        PlainArray((3,), 0).write(box, values)
        for ask in (depth, paths_of, is_expression, format_expression):
            ask(expression)
        expression_shape(store, expression)
        evaluate(store, expression, box)
        store_expression(store, "c", box, expression)
        summary(store, "b", box)
        first_difference(store, "b", "c")
        self.assertEqual((expression, values, pieces, box, attributes), told)

    def test_questions_about_a_file_do_not_change_it(self):
        disk = script_disk()
        disk.append([7, 255, 3])
        before = bytes_of(disk)
        for ask in (inspect, live_pointers, is_sound, compacted, repaired, batches):
            ask(disk)
            self.assertEqual(bytes_of(disk), before)
        for batch in batches(disk):
            snapshot(look_at(disk, batch))
            changed_paths(disk, 0, batch)
        changed_chunks(disk, 2, 3, "h/a")
        self.assertEqual(bytes_of(disk), before)

    def test_new_disks_do_not_share_bytes_with_the_old_one(self):
        disk = script_disk()
        before = bytes_of(disk)
        for made in (compacted(disk), repaired(disk)[0]):
            made.change(0, 9)
            made.append([1])
            self.assertEqual(bytes_of(disk), before)

    def test_no_object_keeps_a_list_that_it_was_passed(self):
        store = new_store(Disk([]))
        store.make_array("a", "u1", (3,), chunks=(2,))
        values, pieces = [1, 2, 3], [("a", (0,), (0,), (2,))]
        store.write("a", whole((3,)), values)
        store.make_view("v", "u1", (3,), pieces=pieces, fill=9)
        values.clear()
        pieces.clear()
        self.assertEqual((store.read("a", whole((3,))), store.read("v", whole((3,)))), ([1, 2, 3], [1, 2, 9]))

    def test_lists_that_are_returned_are_new(self):
        disk = script_disk()
        store = open_store(disk)
        for ask in (
            store.paths, lambda: store.names_in(""), lambda: store.attributes_of("h"), lambda: batches(disk),
            lambda: store.read("h/a", whole((2, 5))), lambda: live_pointers(disk), lambda: changed_paths(disk, 0, 3),
            lambda: PlainArray((2,), 1).all_values(), lambda: paths_of(("path", "a")),
        ):
            due = list(ask())
            ask().append("more")
            self.assertEqual(ask(), due)
            self.assertNotEqual(due, [])


class ScriptTests(unittest.TestCase):
    def test_a_refused_line_changes_nothing(self):
        # The refused deeds of a random row leave the store as it was (point 61).
        for seed in (501, 502):
            deeds = Deeds(seed)
            store = new_store(Disk([]))
            for _ in range(80):
                name, arguments, named = deeds.next()
                before = snapshot(store)
                if error_of(lambda: getattr(store, name)(*arguments, **named)) is not None:
                    self.assertEqual(snapshot(store), before)
                error_of(lambda: getattr(deeds.plain, name)(*arguments, **named))

    def test_the_script_leaves_what_it_says(self):
        plain = PlainStore()
        plain.make_group("h")
        plain.set_attribute("h", "unit", "some metres")
        plain.set_attribute("h", "n", (1, -2))
        plain.make_array("h/a", "i2", (2, 5), chunks=(2, 2), fill=-1, filters=("delta", "runs"))
        plain.write("h/a", ("points", ((0, 0), (0, 2))), [1, 2])
        plain.write("h/a", ("box", ((1, 1, 1), (0, 1, 5))), [7, 8, 9, 10, 11])
        plain.make_view("w", "u1", (2, 2), pieces=[("g/a", (0, 2), (0, 0), (2, 1))], fill=9)
        plain.make_array("s", "u4", (), chunks=(), fill=7, filters=("planes",))
        self.assertEqual(snapshot(open_store(script_disk())), snapshot(plain))

    def test_damage_is_told_by_every_part(self):
        disk = script_disk()
        pointer = open_store(disk.copied()).chunk_pointer("h/a", (0, 1))
        broken = damaged_disk(disk, pointer)
        store = open_store(broken)
        due = (Damaged, {"address": pointer[0], "length": pointer[1]})
        for ask in (
            lambda: dump(store), lambda: summary(store, "h/a", whole((2, 5))), lambda: compacted(broken),
            lambda: evaluate(store, ("path", "h/a"), whole((2, 5))), lambda: first_difference(store, "h/a", "h/a"),
            lambda: look_at(broken, 3).read("h/a", whole((2, 5))),
        ):
            self.assertEqual(error_of(ask), due)
        self.assertEqual(repaired(broken)[1], [("chunk", "h/a", (0, 1))])
        self.assertEqual(inspect(broken), [pointer])


if __name__ == "__main__":
    unittest.main()
