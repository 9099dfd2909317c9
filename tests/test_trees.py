"""Trees (points 24 to 27)."""

import random
import unittest

from tessera.disks import Disk
from tessera.errors import Damaged
from tessera.logs import Log
from tessera.numbers import write_integers, write_number
from tessera.records import NOWHERE
from tessera.trees import entries, exchange, find, node_pointers, put, remove, tree_depth

from tests.tools import damaged_disk, new_log, node_at, nodes_of, outcome, pointer_of, sealed_log, way_down

KEYS = [(), (0,), (0, 0), (0, 0, 5), (0, 1), (1,), (1, 0), (1, 0, 0), (1, 2), (2,), (124,), (125, 1), (10 ** 20,)]


def filled(keys):
    """A log and the root of a tree in which each key has a pointer of its own."""
    log = new_log()
    root = NOWHERE
    for number, key in enumerate(keys):
        root = put(log, root, key, (number + 90, 5))
    return log, root


def sealed(keys):
    log, root = filled(keys)
    return sealed_log(log, root), root


def listed(log, root, **bounds):
    return list(entries(log, root, **bounds))


class ExampleTests(unittest.TestCase):
    def test_entries(self):
        log = Log(Disk([]))
        first = put(log, (0, 0), (3,), (90, 5))
        second = put(log, first, (1, 2), (80, 6))
        self.assertEqual(listed(log, second), [((1, 2), (80, 6)), ((3,), (90, 5))])

    def test_old_roots_give_old_trees(self):
        log = Log(Disk([]))
        first = put(log, (0, 0), (3,), (90, 5))
        put(log, first, (3,), (70, 4))
        self.assertEqual(find(log, first, (3,)), (90, 5))


class TableTests(unittest.TestCase):
    def check_form(self, log, root):
        """The tree is one of point 24. Its nodes are in the file."""
        depths = set()

        def visit(pointer, low, high, depth):
            kind, pairs = node_at(log.disk, pointer)
            keys = [key for key, _ in pairs]
            self.assertIn(kind, (1, 2))
            self.assertTrue(1 <= len(pairs) <= 8)
            self.assertEqual(keys, sorted(set(keys)))
            for key in keys:
                self.assertTrue(low <= key and (high is None or key < high))
            if kind == 1:
                depths.add(depth)
                return
            for (key, below), end in zip(pairs, keys[1:] + [high]):
                visit(below, key, end, depth + 1)

        if root != NOWHERE:
            visit(root, (), None, 1)
            self.assertTrue(len(node_at(log.disk, root)[1]) > 1 or node_at(log.disk, root)[0] == 1)
            self.assertEqual(depths, {tree_depth(log, root)})

    def check_table(self, log, root, table):
        self.assertEqual(listed(log, root), sorted(table.items()))
        for key in list(table) + [key + (0,) for key in table] + [(7, 7, 7), ()]:
            self.assertEqual(find(log, root, key), table.get(key))

    def check_orders(self, keys):
        log = new_log()
        root, table, kept = NOWHERE, {}, []
        for number, key in enumerate(keys):
            kept.append((root, dict(table)))
            table[key] = (number, number + 1)
            root = put(log, root, key, table[key])
            self.check_table(log, root, table)
        log.seal(root)
        for old, old_table in kept + [(root, table)]:
            self.check_table(log, old, old_table)
            self.check_form(log, old)

    def test_keys_of_different_lengths(self):
        self.check_orders(KEYS)
        self.check_orders(KEYS[::-1])
        log, root = filled([(1, 0), (1,), ()])
        self.assertEqual([key for key, _ in entries(log, root)], [(), (1,), (1, 0)])

    def test_ascending_descending_and_mixed(self):
        keys = [(number // 7, number % 7) for number in range(80)]
        self.check_orders(keys)
        self.check_orders(keys[::-1])
        mixed = list(keys)
        random.Random(5).shuffle(mixed)
        self.check_orders(mixed)

    def test_putting_again_replaces_the_pointer(self):
        keys = [(number,) for number in range(40)]
        log, root = filled(keys)
        before = tree_depth(log, root)
        table = dict(entries(log, root))
        for key in keys[::3]:
            root = put(log, root, key, (7, 8))
            table[key] = (7, 8)
        self.check_table(log, root, table)
        self.assertEqual(tree_depth(log, root), before)

    def test_removing_until_nothing_is_left(self):
        keys = [(number,) for number in range(100)]
        orders = [keys, keys[::-1], sorted(keys, key=lambda key: (key[0] * 37) % 101)]
        for order in orders:
            log, root = filled(keys)
            table, kept = dict(entries(log, root)), []
            for key in order:
                kept.append((root, dict(table)))
                root = remove(log, root, key)
                del table[key]
            self.assertEqual((root, table), (NOWHERE, {}))
            log.seal(root)
            for old, old_table in kept:
                self.check_table(log, old, old_table)
                self.check_form(log, old)

    def test_removing_what_is_not_there(self):
        self.assertEqual(remove(new_log(), NOWHERE, (1,)), NOWHERE)
        for count in (1, 8, 9, 70):
            log, root = filled([(2 * number + 1,) for number in range(count)])
            before = log.pending
            for key in [(), (0,), (2,), (1, 0), (2 * count,), (10 ** 9,)]:
                self.assertEqual(remove(log, root, key), root)
            self.assertEqual(log.pending, before)

    def test_mixed_deeds(self):
        choose = random.Random(11)
        log = new_log()
        root, table, kept = NOWHERE, {}, []
        for step in range(600):
            key = tuple([choose.randrange(6) for _ in range(choose.randrange(4))])
            if choose.random() < (0.7 if step < 300 else 0.35):
                table[key] = (step, 3)
                root = put(log, root, key, (step, 3))
            else:
                table.pop(key, None)
                root = remove(log, root, key)
            if step % 25 == 0:
                kept.append((root, dict(table)))
        log.seal(root)
        for old, old_table in kept:
            self.check_form(log, old)
            self.check_table(log, old, old_table)


class NodeTests(unittest.TestCase):
    def test_the_content_of_a_leaf(self):
        log, root = filled([(3,), (1, 2), ()])
        self.assertEqual(log.fetch(1, root), [3, 0, 92, 5, 2, 2, 4, 91, 5, 1, 6, 90, 5])

    def test_great_numbers_in_a_node(self):
        log = new_log()
        root = put(log, NOWHERE, (10 ** 20, 0), (10 ** 15, 1000))
        due = [1] + write_integers([10 ** 20, 0]) + write_number(10 ** 15) + [125, 8]
        self.assertEqual(log.fetch(1, root), due)

    def test_nine_entries_become_two_nodes(self):
        log, root = sealed([(number,) for number in range(9)])
        kind, pairs = node_at(log.disk, root)
        self.assertEqual((kind, len(pairs), tree_depth(log, root)), (2, 2, 2))
        parts = [node_at(log.disk, pointer) for _, pointer in pairs]
        self.assertEqual([part[0] for part in parts], [1, 1])
        self.assertEqual([key for key, _ in parts[0][1]], [(0,), (1,), (2,), (3,), (4,)])
        self.assertEqual([key for key, _ in parts[1][1]], [(5,), (6,), (7,), (8,)])
        content = [2]
        for key, (address, length) in pairs:
            content += write_integers(key) + write_number(address) + write_number(length)
        self.assertEqual(log.fetch(2, root), content)

    def test_nine_entries_wherever_the_new_one_stands(self):
        for new in range(9):
            keys = [(number,) for number in range(9) if number != new] + [(new,)]
            log, root = sealed(keys)
            counts = [len(node_at(log.disk, pointer)[1]) for _, pointer in node_at(log.disk, root)[1]]
            self.assertEqual(counts, [5, 4])

    def test_eight_entries_are_one_leaf(self):
        log, root = sealed([(number,) for number in range(8)])
        self.assertEqual((node_at(log.disk, root)[0], tree_depth(log, root)), (1, 1))

    def test_inner_nodes_become_two_as_well(self):
        # Ascending keys leave leaves of five entries behind; with 44 keys the root
        # would have nine entries.
        log, root = sealed([(number,) for number in range(43)])
        self.assertEqual((len(node_at(log.disk, root)[1]), tree_depth(log, root)), (8, 2))
        log, root = sealed([(number,) for number in range(44)])
        counts = [len(node_at(log.disk, pointer)[1]) for _, pointer in node_at(log.disk, root)[1]]
        self.assertEqual((counts, tree_depth(log, root)), ([5, 4], 3))

    def test_putting_makes_new_nodes_on_the_way_only(self):
        log, root = sealed([(number,) for number in range(60)])
        old = [pointer for pointer, _, _ in nodes_of(log.disk, root)]
        way = way_down(log.disk, root, (17, 5))
        end = len(log.disk)
        changed = put(log, root, (17, 5), (1, 3))
        log.seal(changed)
        new = [pointer for pointer, _, _ in nodes_of(log.disk, changed)]
        self.assertEqual({pointer for pointer in old if pointer not in new}, set(way))
        self.assertEqual(len([pointer for pointer in new if pointer[0] >= end]), len(way))

    def test_a_root_with_one_entry_is_replaced(self):
        # 44 ascending keys give three levels; the right half has four leaves.
        log, root = filled([(number,) for number in range(44)])
        self.assertEqual(tree_depth(log, root), 3)
        for number in range(43, 24, -1):
            root = remove(log, root, (number,))
        # The right half is gone, so its inner sister is the root.
        self.assertEqual(tree_depth(log, root), 2)
        for number in range(24, 4, -1):
            self.assertEqual(tree_depth(log, root), 2)
            root = remove(log, root, (number,))
        self.assertEqual(tree_depth(log, root), 1)
        self.assertEqual([key for key, _ in entries(log, root)], [(number,) for number in range(5)])

    def test_the_node_that_becomes_the_root_may_have_two_entries(self):
        log, root = filled([(number,) for number in range(44)])
        for number in range(10, 44):
            root = remove(log, root, (number,))
        self.assertEqual(tree_depth(log, root), 2)
        self.assertEqual([key for key, _ in entries(log, root)], [(number,) for number in range(10)])

    def test_roots_with_one_entry_are_replaced_down_to_a_leaf(self):
        log, root = filled([(number,) for number in range(44)])
        for number in range(5, 25):
            root = remove(log, root, (number,))
        # The left half has one leaf by now, below one inner node.
        self.assertEqual(tree_depth(log, root), 3)
        for number in range(43, 24, -1):
            root = remove(log, root, (number,))
        self.assertEqual(tree_depth(log, root), 1)
        self.assertEqual(log.fetch(1, root)[0], 5)

    def test_node_pointers(self):
        self.assertEqual(node_pointers(new_log(), NOWHERE), [])
        for count in (1, 8, 9, 44, 200):
            log, root = filled([(number,) for number in range(count)])
            found = node_pointers(log, root)
            log.seal(root)
            self.assertEqual(found, [pointer for pointer, _, _ in nodes_of(log.disk, root)])

    def test_depths(self):
        self.assertEqual(tree_depth(new_log(), NOWHERE), 0)
        log = new_log()
        root = NOWHERE
        for number in range(300):
            root = put(log, root, (number,), (1, 3))
            self.assertLessEqual(tree_depth(log, root), number + 1)
        self.assertEqual(tree_depth(log, root), 4)

    def test_contents_that_are_not_those_of_nodes(self):
        good = [1, 1, 6, 90, 5]
        nine = [9] + [part for number in range(9) for part in (1, 2 * number, 90, 5)]
        for content in ([], [0], nine, good[:-1], good + [0], [2] + good[1:], [1, 125, 0, 90, 5]):
            for kind in (1, 2):
                log = new_log()
                root = log.put(kind, content)
                for ask in (find, remove):
                    with self.assertRaises(Damaged) as caught:
                        ask(log, root, (3,))
                    self.assertEqual(pointer_of(caught.exception), root)

    def test_other_records_are_no_nodes(self):
        for kind in (3, 4):
            log = new_log()
            root = log.put(kind, [1, 1, 6, 90, 5])
            with self.assertRaises(Damaged):
                find(log, root, (3,))


class BoundsTests(unittest.TestCase):
    def check_bounds(self, keys):
        log, root = filled(keys)
        table = sorted(entries(log, root))
        bounds = [(), (0,), (3,), (3, 0), (4, 1), (8,), (8, 0, 0), (17,), (30,), (10 ** 9,)]
        for low in bounds:
            self.assertEqual(listed(log, root, low=low), [pair for pair in table if pair[0] >= low])
            for high in bounds:
                due = [pair for pair in table if low <= pair[0] < high]
                self.assertEqual(listed(log, root, low=low, high=high), due)
        for high in bounds:
            self.assertEqual(listed(log, root, high=high), [pair for pair in table if pair[0] < high])

    def test_bounds(self):
        self.check_bounds([(number, 0) for number in range(1, 31)])
        self.check_bounds([(number,) for number in range(31)])
        self.check_bounds([()])
        self.check_bounds([])
        self.check_bounds(KEYS)

    def test_a_generator(self):
        log, root = filled([(1,), (2,)])
        steps = entries(log, root)
        self.assertEqual(next(steps), ((1,), (90, 5)))
        self.assertEqual(next(steps), ((2,), (91, 5)))
        self.assertEqual(list(steps), [])


class NeedTests(unittest.TestCase):
    """With one changed byte, the functions fail exactly if they need its record."""

    def check_need(self, log, root, needed, action):
        due = action(log)
        log.drop()
        for pointer, _, _ in nodes_of(log.disk, root):
            for place in (0, 1, pointer[1] - 1):
                changed = Log(damaged_disk(log.disk, pointer, place))
                got = outcome(lambda: action(changed))
                self.assertEqual(got, ("damaged", pointer) if pointer in needed else ("gives", due))
                if pointer in needed:
                    self.assertEqual(changed.pending, 0)

    def test_looking_up_and_putting(self):
        for count in (1, 9, 60):
            log, root = sealed([(2 * number + 1,) for number in range(count)])
            for key in [(), (0,), (1,), (2,), (11,), (2 * count - 1,), (2 * count,), (500, 1)]:
                needed = way_down(log.disk, root, key)
                self.assertEqual(len(needed), tree_depth(log, root))
                self.check_need(log, root, needed, lambda log: find(log, root, key))

                self.check_need(log, root, needed, lambda log: put(log, root, key, (7, 7)))

    def test_removing(self):
        log, root = sealed([(number,) for number in range(60)])
        for key in [(0,), (31,), (59,), (60,), (3, 3)]:
            needed = way_down(log.disk, root, key)
            self.check_need(log, root, needed, lambda log: remove(log, root, key))

    def test_removing_needs_the_sister_that_may_become_the_root(self):
        log, root = filled([(number,) for number in range(44)])
        for number in range(43, 25, -1):
            root = remove(log, root, (number,))
        log = sealed_log(log, root)
        left, right = [pointer for _, pointer in node_at(log.disk, root)[1]]
        needed = way_down(log.disk, root, (25,)) + [left]
        self.assertIn(right, needed)
        self.check_need(log, root, needed, lambda log: remove(log, root, (25,)))

    def test_a_leaf_that_becomes_the_root_is_not_needed(self):
        log, root = filled([(number,) for number in range(9)])
        for number in range(8, 5, -1):
            root = remove(log, root, (number,))
        log = sealed_log(log, root)
        needed = way_down(log.disk, root, (5,))
        self.check_need(log, root, needed, lambda log: remove(log, root, (5,)))

    def test_entries_need_the_nodes_that_can_contain_such_keys(self):
        log, root = sealed([(number, 1) for number in range(1, 61)])
        nodes = nodes_of(log.disk, root)
        bounds = [(), (1,), (1, 1), (5, 1), (6, 1), (6, 1, 0), (20,), (21, 1), (46, 1), (59, 9), (70,)]
        for low in bounds:
            for high in bounds + [None]:
                needed = [
                    pointer for pointer, least, end in nodes
                    if (high is None or (low < high and least < high)) and (end is None or low < end)
                ]
                self.check_need(log, root, needed, lambda log: listed(log, root, low=low, high=high))

    def test_entries_of_nothing_need_nothing(self):
        log, root = sealed([(number,) for number in range(30)])
        broken = Log(damaged_disk(log.disk, root))
        for low, high in [((3,), (3,)), ((3,), (2,)), ((), ()), ((3, 0), (3,))]:
            self.assertEqual(listed(broken, root, low=low, high=high), [])

    def test_whole_trees(self):
        log, root = sealed([(number,) for number in range(60)])
        nodes = [pointer for pointer, _, _ in nodes_of(log.disk, root)]
        self.check_need(log, root, nodes, lambda log: listed(log, root))
        self.check_need(log, root, nodes, lambda log: node_pointers(log, root))
        self.check_need(log, root, way_down(log.disk, root, ()), lambda log: tree_depth(log, root))


class ExchangeTests(unittest.TestCase):
    def test_putting_and_removing_at_once(self):
        log, root = filled([(number,) for number in range(30)])
        table = dict(entries(log, root))
        changed = exchange(log, root, [((40,), (1, 3)), ((7, 7), (2, 3))], [(7,), (0,), (29,)])
        table.update({(40,): (1, 3), (7, 7): (2, 3)})
        for key in [(7,), (0,), (29,)]:
            del table[key]
        self.assertEqual(listed(log, changed), sorted(table.items()))

    def test_damage_leaves_the_batch_as_it_was(self):
        log, root = sealed([(number,) for number in range(30)])
        broken = Log(damaged_disk(log.disk, way_down(log.disk, root, (29,))[-1]))
        broken.put(3, [5])
        for pairs, gone in [([((0, 1), (1, 3)), ((40,), (1, 3))], []), ([], [(0,), (29,)])]:
            with self.assertRaises(Damaged):
                exchange(broken, root, pairs, gone)
            self.assertEqual(broken.pending, 4)


if __name__ == "__main__":
    unittest.main()
