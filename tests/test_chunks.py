"""Chunks (points 29 and 30)."""

import itertools
import unittest

from tessera.chunks import decode_chunk, encode_chunk, load_chunk, save_chunk
from tessera.errors import Damaged
from tessera.filters import FILTERS
from tessera.kinds import KINDS, greatest, least, store_values
from tessera.layouts import Layout
from tessera.logs import Log
from tessera.numbers import write_bytes
from tessera.records import NOWHERE
from tessera.trees import entries, find, put

from tests.tools import damaged_disk, new_log, outcome, pointer_of, sealed_log, way_down

CHAINS = [()] + [chain for count in (1, 2) for chain in itertools.product(FILTERS, repeat=count)] + [
    ("planes", "delta", "runs"), ("delta", "delta", "planes", "runs", "zeros", "runs"), ("zeros",) * 6, ("runs",) * 3,
]


def values_of(kind, count):
    some = [0, least(kind), greatest(kind), 1, 1, 1, greatest(kind) - 1, 0, 0, 7]
    return [some[number % len(some)] for number in range(count)]


class ContentTests(unittest.TestCase):
    def test_example(self):
        self.assertEqual(encode_chunk(Layout("u1", (4,), 0, ("runs",)), [9, 9, 9, 1]), [4, 3, 9, 1, 1])

    def test_contents_byte_by_byte(self):
        self.assertEqual(encode_chunk(Layout("u1", (), 0, ()), [7]), [1, 7])
        self.assertEqual(encode_chunk(Layout("i2", (2,), 0, ()), [1, -2]), [4, 1, 0, 249, 5, 249, 6])
        self.assertEqual(encode_chunk(Layout("i2", (2, 1), 0, ("planes",)), [1, -2]), [4, 1, 249, 5, 0, 249, 6])
        # The bytes 5 0 0 0, then 5 251 0 0, then 0 2 5 251.
        self.assertEqual(encode_chunk(Layout("u4", (1,), 0, ("delta", "zeros")), [5]), [4, 0, 2, 5, 249, 2])

    def test_contents_come_back(self):
        for kind in KINDS:
            for chain in CHAINS:
                for shape in [(), (1,), (3, 2), (2, 1, 2, 2)]:
                    layout = Layout(kind, shape, 0, chain)
                    count = 1
                    for size in shape:
                        count *= size
                    for values in (values_of(kind, count), [0] * count, [greatest(kind)] * count):
                        content = encode_chunk(layout, values)
                        self.assertLessEqual(max(content), 249)
                        self.assertEqual(decode_chunk(layout, content), values)

    def test_the_greatest_chunk(self):
        layout = Layout("i4", (64, 64), 0, ("planes", "delta", "runs"))
        values = [number * number - 5000 for number in range(4096)]
        self.assertEqual(decode_chunk(layout, encode_chunk(layout, values)), values)

    def test_lists_are_not_shared(self):
        layout = Layout("u1", (3,), 0, ())
        values = [1, 2, 3]
        content = encode_chunk(layout, values)
        found = decode_chunk(layout, content)
        self.assertEqual((values, content, found), ([1, 2, 3], [3, 1, 2, 3], [1, 2, 3]))
        found[0] = 9
        self.assertEqual((values, content), ([1, 2, 3], [3, 1, 2, 3]))

    def test_wrong_contents(self):
        plain = Layout("u1", (3,), 0, ())
        for content in ([], [3], [3, 1, 2], [2, 1, 2], [4, 1, 2, 3, 4], [3, 1, 2, 3, 0], [3, 1, 2, 249], [128, 0, 1, 2, 3]):
            self.assertIsNone(decode_chunk(plain, content))
        self.assertIsNone(decode_chunk(plain, [3, 1, 249, 7, 2]))
        self.assertEqual(decode_chunk(plain, [3, 1, 249, 6, 2]), [1, 255, 2])
        wide = Layout("i2", (2,), 0, ())
        for count in (0, 1, 2, 3, 5, 6, 8):
            self.assertIsNone(decode_chunk(wide, write_bytes([1] * count)))
        self.assertEqual(decode_chunk(wide, write_bytes([1] * 4)), [257, 257])

    def test_what_the_filters_refuse(self):
        runs = Layout("u1", (3,), 0, ("runs",))
        self.assertEqual(decode_chunk(runs, write_bytes([3, 7])), [7, 7, 7])
        for passed in ([3], [0, 7, 3, 7], [1, 7, 2, 7], [2, 7], [4, 7], []):
            self.assertIsNone(decode_chunk(runs, write_bytes(passed)))
        zeros = Layout("u1", (3,), 0, ("zeros",))
        self.assertEqual(decode_chunk(zeros, write_bytes([0, 2, 5])), [5, 0, 0])
        for passed in ([0], [], [0, 1, 5, 0], [0, 1, 5], [0, 3, 5], [1, 2, 5]):
            self.assertIsNone(decode_chunk(zeros, write_bytes(passed)))

    def test_changed_contents(self):
        for kind, chain in [("u1", ()), ("i2", ("delta",)), ("u4", ("planes", "runs")), ("i1", ("zeros", "runs"))]:
            layout = Layout(kind, (2, 3), 0, chain)
            content = encode_chunk(layout, values_of(kind, 6))
            contents = [content[:at] + [byte] + content[at + 1:] for at in range(len(content)) for byte in range(250)]
            contents += [content[:at] + content[at + 1:] for at in range(len(content))]
            contents += [content + [byte] for byte in range(250)]
            for changed in contents:
                values = decode_chunk(layout, changed)
                if values is not None:
                    self.assertEqual(len(values), 6)
                    self.assertEqual(encode_chunk(layout, values), changed)


class RecordTests(unittest.TestCase):
    layout = Layout("i2", (2, 3), -5, ("delta", "runs"))
    values = [1, -2, 300, 4, 5, -32768]

    def test_without_an_entry(self):
        log = new_log()
        self.assertEqual(load_chunk(log, self.layout, NOWHERE, (0, 0)), [-5] * 6)
        root = save_chunk(log, self.layout, NOWHERE, (0, 1), self.values)
        self.assertEqual(load_chunk(log, self.layout, root, (0, 0)), [-5] * 6)
        self.assertEqual(load_chunk(log, self.layout, root, (1, 1)), [-5] * 6)
        self.assertEqual(load_chunk(log, self.layout, root, (0, 1)), self.values)

    def test_without_dimensions(self):
        log = new_log()
        layout = Layout("u1", (), 9, ())
        self.assertEqual(load_chunk(log, layout, NOWHERE, ()), [9])
        root = save_chunk(log, layout, NOWHERE, (), [7])
        self.assertEqual([key for key, _ in entries(log, root)], [()])
        self.assertEqual(load_chunk(log, layout, root, ()), [7])

    def test_a_chunk_is_a_record_of_the_kind_3(self):
        log = new_log()
        root = save_chunk(log, self.layout, NOWHERE, (4, 2), self.values)
        pointer = find(log, root, (4, 2))
        self.assertEqual(log.fetch(3, pointer), encode_chunk(self.layout, self.values))

    def test_saving_again(self):
        log = new_log()
        first = save_chunk(log, self.layout, NOWHERE, (0, 1), self.values)
        second = save_chunk(log, self.layout, first, (0, 1), [0] * 6)
        self.assertEqual(load_chunk(log, self.layout, first, (0, 1)), self.values)
        self.assertEqual(load_chunk(log, self.layout, second, (0, 1)), [0] * 6)

    def test_values_are_not_shared(self):
        log = new_log()
        values = list(self.values)
        root = save_chunk(log, self.layout, NOWHERE, (0, 1), values)
        self.assertEqual(values, self.values)
        load_chunk(log, self.layout, root, (0, 1))[0] = 77
        load_chunk(log, self.layout, root, (0, 0))[0] = 77
        self.assertEqual(load_chunk(log, self.layout, root, (0, 1)), self.values)
        self.assertEqual(load_chunk(log, self.layout, root, (0, 0)), [-5] * 6)

    def test_damage(self):
        log = new_log()
        root = NOWHERE
        for number in range(12):
            root = save_chunk(log, self.layout, root, (number, 0), self.values)
        log = sealed_log(log, root)
        chunk = find(log, root, (3, 0))
        nodes = way_down(log.disk, root, (3, 0))
        self.assertEqual(len(nodes), 2)
        for pointer in nodes + [chunk]:
            for place in range(pointer[1]):
                broken = Log(damaged_disk(log.disk, pointer, place))
                got = outcome(lambda: load_chunk(broken, self.layout, root, (3, 0)))
                self.assertEqual(got, ("damaged", pointer))
                got = outcome(lambda: load_chunk(broken, self.layout, root, (11, 0)))
                due = ("damaged", pointer) if pointer == root else ("gives", self.values)
                self.assertEqual(got, due)

    def test_saving_needs_the_nodes_but_no_chunk(self):
        log = new_log()
        root = NOWHERE
        for number in range(12):
            root = save_chunk(log, self.layout, root, (number, 0), self.values)
        log = sealed_log(log, root)
        broken = Log(damaged_disk(log.disk, find(log, root, (3, 0))))
        changed = save_chunk(broken, self.layout, root, (3, 0), [1] * 6)
        self.assertEqual(load_chunk(broken, self.layout, changed, (3, 0)), [1] * 6)
        for pointer in way_down(log.disk, root, (3, 0)):
            broken = Log(damaged_disk(log.disk, pointer))
            got = outcome(lambda: save_chunk(broken, self.layout, root, (3, 0), [1] * 6))
            self.assertEqual((got, broken.pending), (("damaged", pointer), 0))

    def test_records_that_are_no_chunks_of_the_layout(self):
        contents = [[], [7], write_bytes(store_values("i2", self.values[:5])), encode_chunk(self.layout, self.values) + [0]]
        for kind, content in [(3, content) for content in contents] + [(4, encode_chunk(self.layout, self.values))]:
            log = new_log()
            pointer = log.put(kind, content)
            root = put(log, NOWHERE, (0, 0), pointer)
            with self.assertRaises(Damaged) as caught:
                load_chunk(log, self.layout, root, (0, 0))
            self.assertEqual(pointer_of(caught.exception), pointer)


if __name__ == "__main__":
    unittest.main()
