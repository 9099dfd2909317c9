"""What a cut leaves (points 21, 22 and 44)."""

import unittest

from tessera.disks import Disk
from tessera.opening import new_store, open_store
from tessera.selections import whole

from tests.test_reckoning import Deeds
from tests.tools import error_of, snapshot


class History:
    """A disk, and what the store showed at each commit, with the place where its seal was whole."""

    def __init__(self, disk, store):
        self.disk, self.store, self.kept = disk, store, []
        self.note()

    def note(self):
        self.kept.append((len(self.disk) - 28, self.store.batch, snapshot(self.store)))

    def commit(self):
        self.store.commit()
        self.note()

    def shown_at(self, count):
        """The batch and the snapshot that are due when this many bytes are left."""
        return [(batch, shown) for end, batch, shown in self.kept if end <= count][-1]


def new_history():
    disk = Disk([])
    return History(disk, new_store(disk))


def batches_of_many_sorts():
    """Several batches with deeds of each sort, refused ones, reads and discards."""
    history = new_history()
    store = history.store
    store.make_group("g")
    store.make_array("g/a", "i2", (5,), chunks=(2,), fill=-1, filters=("delta", "runs"))
    history.commit()
    store.write("g/a", ("box", ((0, 1, 5),)), [1, 2, 300, 4, 5])
    store.make_view("v", "u1", (3,), pieces=[("g/a", (1,), (0,), (3,))], fill=9)
    store.set_attribute("v", "n", (1, 2))
    history.commit()
    store.remove("g")
    store.discard()
    store.duplicate("g", "h")
    store.resize("h/a", (3,))
    error_of(lambda: store.make_group("g"))
    store.read("v", whole((3,)))
    history.commit()
    history.commit()
    store.move("g", "i")
    store.add_piece("v", ("i/a", (4,), (2,), (1,)))
    store.remove_attribute("v", "n")
    store.remove("h")
    history.commit()
    return history


class CutTests(unittest.TestCase):
    def check_cut(self, history, count):
        disk = history.disk.copied()
        disk.cut(count)
        store = open_store(disk)
        batch, shown = history.shown_at(count)
        self.assertEqual((store.batch, snapshot(store)), (batch, shown), count)
        return disk, store

    def test_cut_behind_every_byte(self):
        history = batches_of_many_sorts()
        self.assertEqual([batch for _, batch, _ in history.kept], [0, 1, 2, 3, 4, 5])
        for count in range(history.kept[0][0], len(history.disk) + 1):
            self.check_cut(history, count)

    def test_changed_further_and_cut_again(self):
        history = batches_of_many_sorts()
        ends = [end for end, _, _ in history.kept]
        places = [end + more for end in ends for more in (0, 1, 27, 28)] + list(range(ends[1], ends[2], 41))
        for count in places:
            disk, store = self.check_cut(history, count)
            further = History(disk, store)
            store.make_group("new")
            store.set_attribute("", "cut", (count,))
            further.commit()
            store.remove("new")
            further.commit()
            start = further.kept[0][0]
            for again in list(range(start, start + 60)) + list(range(start + 60, len(disk) + 1, 7)) + [len(disk)]:
                self.check_cut(further, again)

    def test_cut_within_the_present_batch(self):
        # Deeds without a commit leave nothing behind in the file.
        history = batches_of_many_sorts()
        size = len(history.disk)
        history.store.make_group("more")
        history.store.write("i/a", ("box", ((0, 1, 1),)), [7])
        self.assertEqual(len(history.disk), size)
        self.assertEqual(snapshot(open_store(history.disk.copied())), history.kept[-1][2])

    def test_random_deeds_and_cuts(self):
        for seed in range(6):
            deeds = Deeds(seed + 50)
            history = new_history()
            for _ in range(60):
                name, arguments, named = deeds.next()
                error_of(lambda: getattr(deeds.plain, name)(*arguments, **named))
                error_of(lambda: getattr(history.store, name)(*arguments, **named))
                if name == "commit":
                    history.note()
            for end, _, _ in history.kept:
                for count in (end, end + 1, end + 27, end + 28, end + 29, end + 90):
                    if count <= len(history.disk):
                        self.check_cut(history, count)
                if end - 1 >= history.kept[0][0]:
                    self.check_cut(history, end - 1)
            for count in range(history.kept[0][0], len(history.disk), 97):
                self.check_cut(history, count)


if __name__ == "__main__":
    unittest.main()
