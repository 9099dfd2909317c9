"""Dumps reckoned in another way than the program does, to compare it with."""

import itertools
import re

from tests.plain_store import FILTERS, RANGES, above, count_of, indexes_of

INTEGER = "(?:0|-?[1-9][0-9]{0,29})"
NAME = "[a-z0-9]{1,12}"
PATH = f"{NAME}(?:/{NAME}){{0,5}}"
KIND = "|".join(RANGES)
FORMS = {
    "group": re.compile(f"group ({PATH})"),
    "array": re.compile(f"array ({PATH}) ({KIND})"),
    "view": re.compile(f"view ({PATH}) ({KIND})"),
    "text": re.compile(f"text ({NAME}) ([ -$&-~]{{0,200}})"),
    "list": re.compile(f"list ({NAME})((?: {INTEGER}){{0,50}})"),
    "shape": re.compile(f"shape((?: {INTEGER}){{0,4}})"),
    "fill": re.compile(f"fill ({INTEGER})"),
    "chunks": re.compile(f"chunks((?: {INTEGER}){{0,4}})"),
    "filters": re.compile(f"filters((?: (?:{'|'.join(FILTERS)})){{0,6}})"),
    "chunk": re.compile(f"chunk((?: {INTEGER}){{0,4}}) :((?: {INTEGER})+)"),
    "piece": re.compile(f"piece ({PATH})((?: {INTEGER})*)"),
}
ATTRIBUTES = {"text", "list"}
HEADERS = {"group", "array", "view"}
# What may follow a line; behind a header and an attribute it depends on the object.
NEXT = {
    "shape": {"array": {"fill"}, "view": {"fill"}},
    "fill": {"array": {"chunks"}, "view": {"piece"} | HEADERS},
    "chunks": {"array": {"filters"}},
    "filters": {"array": {"chunk"} | HEADERS},
    "chunk": {"array": {"chunk"} | HEADERS},
    "piece": {"view": {"piece"} | HEADERS},
}


def integers(words):
    return tuple([int(word) for word in words.split()])


class Faults:
    """Goes through the lines of a text and stops at the first one that no dump has there."""

    def __init__(self):
        self.sorts, self.due, self.at = {}, {"group"}, None

    def may_end(self):
        return self.at is not None and bool(self.due & HEADERS)

    def take(self, line):
        """Whether the line is one of a dump that begins with the lines before it."""
        word = line.split(" ")[0]
        if self.at is None:
            return line == "group /" and self.begin("group", "", None)
        found = FORMS[word].fullmatch(line) if word in self.due else None
        if not found:
            return False
        if word in HEADERS:
            path, kind = (found.groups() + (None,))[:2]
            if path <= self.at or self.sorts.get(above(path)) != "group":
                return False
            return self.begin(word, path, kind)
        if not getattr(self, "take_" + word)(*found.groups()):
            return False
        if word not in ATTRIBUTES:
            self.due = NEXT[word][self.sorts[self.at]]
        return True

    def begin(self, sort, path, kind):
        self.at, self.kind, self.names, self.grids, self.pieces = path, kind, [], [], 0
        self.sorts[path] = sort
        self.due = ATTRIBUTES | (HEADERS if sort == "group" else {"shape"})
        return True

    def take_text(self, name, value):
        self.names.append(name)
        return self.names == sorted(set(self.names)) and len(self.names) <= 20

    def take_list(self, name, numbers):
        return self.take_text(name, numbers)

    def take_shape(self, sizes):
        self.shape = integers(sizes)
        return all(0 <= size <= 10 ** 9 for size in self.shape)

    def take_fill(self, value):
        self.fill = int(value)
        return self.in_range([self.fill])

    def in_range(self, values):
        low, high = RANGES[self.kind]
        return all(low <= value <= high for value in values)

    def take_chunks(self, sizes):
        self.chunks = integers(sizes)
        return len(self.chunks) == len(self.shape) and min(self.chunks + (1,)) >= 1 and count_of(self.chunks) <= 4096

    def take_filters(self, names):
        return True

    def take_chunk(self, grid, values):
        grid, values = integers(grid), integers(values)
        self.grids.append(grid)
        if len(grid) != len(self.shape) or self.grids != sorted(set(self.grids)):
            return False
        if len(values) != count_of(self.chunks) or not self.in_range(values):
            return False
        corners = [place * size for place, size in zip(grid, self.chunks)]
        if not all(0 <= corner < size for corner, size in zip(corners, self.shape)):
            return False
        places = [range(corner, corner + size) for corner, size in zip(corners, self.chunks)]
        outside = [any(at >= size for at, size in zip(index, self.shape)) for index in itertools.product(*places)]
        return all(value == self.fill for value, is_out in zip(values, outside) if is_out)

    def take_piece(self, path, numbers):
        numbers, many = integers(numbers), len(self.shape)
        self.pieces += 1
        if self.pieces > 10 or len(numbers) != 3 * many:
            return False
        source, target, counts = numbers[:many], numbers[many:2 * many], numbers[2 * many:]
        if min(source + target + (0,)) < 0 or min(counts + (1,)) < 1:
            return False
        return all(start + count <= size for start, count, size in zip(target, counts, self.shape))


def first_fault(text):
    """The number that InvalidDump is due with, or None if the text is a dump."""
    faults = Faults()
    lines = text.split("\n")
    for number, line in enumerate(lines, 1):
        if not faults.take(line):
            return number
    return None if faults.may_end() else len(lines) + 1


def joined(*words):
    return " ".join(map(str, words))


def dump_of(store, plain):
    """The dump of a store whose deeds a PlainStore has done, too."""
    lines = []
    for path in plain.paths():
        thing = plain.things[path]
        lines.append(joined(thing["sort"], path or "/", *([] if thing["sort"] == "group" else [thing["kind"]])))
        for name, value in sorted(thing["attributes"].items()):
            lines.append(f"text {name} {value}" if isinstance(value, str) else joined("list", name, *value))
        if thing["sort"] == "group":
            continue
        lines += [joined("shape", *thing["shape"]), joined("fill", thing["fill"])]
        for piece in thing.get("pieces", []):
            lines.append(joined("piece", piece[0], *piece[1], *piece[2], *piece[3]))
        if thing["sort"] == "array":
            lines += [joined("chunks", *thing["chunks"]), joined("filters", *thing["filters"])]
            lines += chunk_lines(store, path, thing)
    return "\n".join(lines)


def chunk_lines(store, path, thing):
    """A line for each chunk that has a record."""
    lines = []
    for grid in indexes_of(tuple([-(-size // step) for size, step in zip(thing["shape"], thing["chunks"])])):
        if store.chunk_pointer(path, grid) is not None:
            places = [range(at * step, (at + 1) * step) for at, step in zip(grid, thing["chunks"])]
            values = [thing["values"].get(index, thing["fill"]) for index in itertools.product(*places)]
            lines.append(joined("chunk", *grid, ":", *values))
    return lines
