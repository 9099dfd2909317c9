"""What damage does to reads and deeds (points 20, 42, 45 and 46)."""

import unittest

from tessera.disks import Disk
from tessera.opening import new_store, open_store
from tessera.selections import whole

from tests.needs import Needs
from tests.tools import damaged_disk, nodes_of, outcome, snapshot

BOX = ("box", ((3, 1, 2),))


def example_disk():
    """The disk of a store with several batches, a deep directory, a deep index and shared chunks."""
    disk = Disk([])
    store = new_store(disk)
    store.make_group("g")
    store.make_array("g/a", "i2", (20,), chunks=(2,), fill=-1, filters=("delta",))
    store.write("g/a", whole((20,)), list(range(1, 21)))
    store.commit()
    for name in ("b", "c", "d", "e", "f"):
        store.make_group(name)
        store.make_group(name + "/x")
    store.set_attribute("b/x", "n", (1, 2))
    store.make_array("g/z", "u1", (2, 2), chunks=(1, 2))
    store.write("g/z", ("points", ((0, 1),)), [7])
    store.duplicate("g", "c/g")
    store.commit()
    store.write("c/g/a", BOX, [500, 600])
    store.make_array("s", "u1", (), chunks=())
    store.make_view("v", "i2", (6,), fill=9, pieces=[
        ("g/a", (2,), (0,), (4,)), ("c/g/a", (0,), (3,), (1,)), ("b", (0,), (4,), (1,)), ("no", (0,), (5,), (1,)),
    ])
    store.make_group("gone")
    store.commit()
    store.remove("gone")
    store.commit()
    return disk


def layout_parts(layout):
    return vars(layout)


class Example:
    """The disk, its records, and what questions and deeds need of them."""

    def __init__(self):
        self.disk = example_disk()
        self.needs = Needs(self.disk)
        self.pointers = self.live_pointers()
        self.questions = self.ask_all()
        self.deeds = self.list_deeds()

    def live_pointers(self):
        needs = self.needs
        found = {pointer for pointer, _, _ in needs.nodes}
        for pointer in needs.pairs(needs.root).values():
            found.add(pointer)
        for path in ("g/a", "g/z", "c/g/a", "c/g/z", "s"):
            root = needs.thing(path).root
            found |= {pointer for pointer, _, _ in nodes_of(self.disk, root)} | set(needs.pairs(root).values())
        return sorted(found)

    def ask_all(self):
        """Pairs of a question and the records that it needs."""
        needs, found = self.needs, [(lambda store: store.paths(), self.needs.all_paths())]

        def add(needed, ask):
            found.append((ask, needed))

        for path in open_store(self.disk.copied()).paths() + ["zz", "0", "g/a0"]:
            add(needs.lookup(path), lambda store, path=path: store.kind_at(path))
        for path in ("", "b/x", "g/a"):
            add(needs.lookup(path), lambda store, path=path: store.attributes_of(path))
        for path in ("", "c", "g", "b/x"):
            add(needs.lookup(path) | needs.inside(path), lambda store, path=path: store.names_in(path))
        add(needs.lookup("g/z"), lambda store: layout_parts(store.layout_of("g/z")))
        add(needs.lookup("v"), lambda store: (store.shape_of("v"), store.pieces_of("v")))
        for path, selections in [
            ("g/a", [whole((20,)), BOX, ("points", ((19,), (0,))), ("points", ())]), ("c/g/a", [whole((20,)), BOX]),
            ("g/z", [whole((2, 2)), ("points", ((1, 1),))]), ("c/g/z", [whole((2, 2))]), ("s", [whole(())]),
            ("v", [whole((6,))] + [("points", ((at,),)) for at in range(6)]),
        ]:
            for selection in selections:
                add(needs.read(path, selection), lambda store, path=path, selection=selection: store.read(path, selection))
        for path, grid in [("g/a", (3,)), ("c/g/a", (9,)), ("g/z", (1, 0)), ("s", ())]:
            add(needs.chunk_pointer(path, grid), lambda store, path=path, grid=grid: store.chunk_pointer(path, grid))
        return found

    def list_deeds(self):
        """Pairs of a deed and the records that it needs."""
        needs = self.needs
        piece = ("g/z", (0,), (0,), (1,))
        return [
            (lambda store: store.make_group("b/new"), needs.make("b/new")),
            (lambda store: store.make_array("new", "u1", (2,), chunks=(2,)), needs.make("new")),
            (lambda store: store.make_view("g/new", "u1", (2,), pieces=[]), needs.make("g/new")),
            (lambda store: store.add_piece("v", piece), needs.lookup("v")),
            (lambda store: store.remove("b/x"), needs.remove("b/x")),
            (lambda store: store.remove("g"), needs.remove("g")),
            (lambda store: store.move("c/g", "h"), needs.carry("c/g", "h")),
            (lambda store: store.move("s", "e/s"), needs.carry("s", "e/s")),
            (lambda store: store.duplicate("g", "b/g"), needs.carry("g", "b/g")),
            (lambda store: store.duplicate("v", "w"), needs.carry("v", "w")),
            (lambda store: store.set_attribute("b/x", "m", "text"), needs.lookup("b/x")),
            (lambda store: store.set_attribute("g/a", "m", "text"), needs.lookup("g/a")),
            (lambda store: store.remove_attribute("b/x", "n"), needs.lookup("b/x")),
            (lambda store: store.write("g/a", BOX, [7, 8]), needs.read("g/a", BOX)),
            (lambda store: store.write("c/g/a", whole((20,)), [3] * 20), needs.read("c/g/a", whole((20,)))),
            (lambda store: store.write("g/a", ("points", ()), []), needs.lookup("g/a")),
            (lambda store: store.write("g/z", ("points", ((1, 1),)), [9]), needs.read("g/z", ("points", ((1, 1),)))),
            (lambda store: store.resize("g/a", (30,)), needs.resize("g/a", None, [])),
            (lambda store: store.resize("g/a", (19,)), needs.resize("g/a", (9,), [(9,)])),
            (lambda store: store.resize("g/a", (12,)), needs.resize("g/a", (6,), [])),
            (lambda store: store.resize("c/g/z", (1, 1)), needs.resize("c/g/z", (0, 0), [(0, 0)])),
            (lambda store: store.commit(), set()),
            (lambda store: store.discard(), set()),
        ]

    def answers(self, store):
        return [outcome(lambda: ask(store)) for ask, _ in self.questions]


class ReadTests(unittest.TestCase):
    @classmethod
    def setUpClass(cls):
        cls.example = Example()

    def test_the_example_has_many_records(self):
        example = self.example
        kinds = [example.disk.part(address, 1)[0] for address, _ in example.pointers]
        self.assertEqual(set(kinds), {1, 2, 3, 4})
        self.assertEqual(example.disk.part(example.needs.root[0], 1), [2])
        self.assertEqual(example.disk.part(example.needs.thing("g/a").root[0], 1), [2])
        self.assertTrue(kinds.count(1) > 5 and kinds.count(4) > 15)

    def test_each_changed_byte_of_the_file(self):
        example = self.example
        whole_store = open_store(example.disk.copied())
        due, shown = example.answers(whole_store), snapshot(whole_store)
        self.assertEqual({word for word, _ in due}, {"gives", "raises"})
        for at in range(len(example.disk)):
            holding = [pointer for pointer in example.pointers if pointer[0] <= at < sum(pointer)]
            # One byte that may stand in a record, and one that only seals have.
            byte = 255 if at % 3 == 0 else example.disk.part(at, 1)[0] ^ 1
            disk = example.disk.copied()
            if disk.part(at, 1) != [byte]:
                disk.change(at, byte)
                store = open_store(disk)
                self.assertEqual(store.batch, whole_store.batch)
                if holding:
                    self.check_answers(store, holding[0], due)
                else:
                    self.assertEqual(snapshot(store), shown)

    def check_answers(self, store, damaged, due):
        for (ask, needed), answer in zip(self.example.questions, due):
            got = outcome(lambda: ask(store))
            self.assertEqual(got, ("damaged", damaged) if damaged in needed else answer)

    def test_damage_while_a_store_is_open(self):
        example = self.example
        for pointer in example.pointers:
            disk = example.disk.copied()
            store = open_store(disk)
            due = example.answers(store)
            disk.change(pointer[0] + 1, (disk.part(pointer[0] + 1, 1)[0] + 9) % 250)
            self.check_answers(store, pointer, due)

    def test_a_damaged_chunk(self):
        # In particular: only reads that pick an index of this chunk are refused.
        store = open_store(self.example.disk.copied())
        pointer = store.chunk_pointer("g/a", (4,))
        self.assertEqual(store.chunk_pointer("c/g/a", (4,)), pointer)
        store = open_store(damaged_disk(self.example.disk, pointer))
        for at in range(20):
            got = outcome(lambda: store.read("g/a", ("points", ((at,),))))
            self.assertEqual(got, ("damaged", pointer) if at // 2 == 4 else ("gives", [at + 1]))
        self.assertEqual(store.read("g/z", whole((2, 2))), [0, 7, 0, 0])
        self.assertEqual(store.read("v", whole((6,))), [3, 4, 5, 1, 9, 9])


class DeedTests(unittest.TestCase):
    @classmethod
    def setUpClass(cls):
        cls.example = Example()

    def test_each_deed_on_each_damaged_record(self):
        example = self.example
        for deed, needed in example.deeds:
            after = open_store(example.disk.copied())
            self.assertIsNone(deed(after))
            due = example.answers(after)
            self.assertLessEqual(needed, set(example.pointers))
            for pointer in example.pointers:
                store = open_store(damaged_disk(example.disk, pointer, pointer[1] // 2))
                if pointer in needed:
                    self.check_refused(store, deed, pointer)
                else:
                    self.assertIsNone(deed(store))
                    for got, answer in zip(example.answers(store), due):
                        self.assertIn(got, [answer, ("damaged", pointer)])

    def check_refused(self, store, deed, pointer):
        before = self.example.answers(store)
        self.assertEqual(outcome(lambda: deed(store)), ("damaged", pointer))
        self.assertEqual(self.example.answers(store), before)

    def test_writing_all_over_a_chunk_needs_its_record(self):
        store = open_store(self.example.disk.copied())
        pointer = store.chunk_pointer("g/a", (4,))
        store = open_store(damaged_disk(self.example.disk, pointer))
        got = outcome(lambda: store.write("g/a", ("box", ((8, 1, 2),)), [1, 2]))
        self.assertEqual(got, ("damaged", pointer))

    def test_a_damaged_chunk_can_be_cut_off(self):
        store = open_store(self.example.disk.copied())
        pointer = store.chunk_pointer("g/a", (9,))
        store = open_store(damaged_disk(self.example.disk, pointer))
        store.resize("g/a", (18,))
        store.resize("g/a", (20,))
        self.assertEqual(store.read("g/a", whole((20,))), list(range(1, 19)) + [-1, -1])

    def test_refused_deeds_on_damage_leave_no_bytes_behind(self):
        example = self.example
        for deed, needed in example.deeds:
            for pointer in sorted(needed):
                disk = damaged_disk(example.disk, pointer)
                store = open_store(disk)
                size = len(disk)
                self.assertEqual(outcome(lambda: deed(store)), ("damaged", pointer))
                store.commit()
                self.assertEqual(len(disk), size + 56)


if __name__ == "__main__":
    unittest.main()
