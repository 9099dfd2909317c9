"""A store reckoned with plain tables, to compare the program's stores with."""

import copy
import itertools
import re

from tessera.errors import (
    AlreadyThere, IntoItself, InvalidPart, InvalidPath, InvalidSelection, InvalidShape, InvalidValue, NoAttribute,
    NotAGroup, NotAnArray, NotFound, WrongCount,
)

NAME = re.compile("[a-z0-9]{1,12}")
RANGES = {
    "i1": (-128, 127), "i2": (-2 ** 15, 2 ** 15 - 1), "i4": (-2 ** 31, 2 ** 31 - 1),
    "u1": (0, 255), "u2": (0, 2 ** 16 - 1), "u4": (0, 2 ** 32 - 1),
}
FILTERS = ("delta", "planes", "runs", "zeros")


def is_path(path):
    names = path.split("/")
    return path == "" or (len(names) <= 6 and all(NAME.fullmatch(name) for name in names))


def above(path):
    return "/".join(path.split("/")[:-1])


def is_in(path, other):
    return path != other and (other == "" or path.startswith(other + "/"))


def indexes_of(shape):
    return list(itertools.product(*[range(size) for size in shape]))


def count_of(shape):
    count = 1
    for size in shape:
        count *= size
    return count


def picked_of(shape, selection):
    form, parts = selection
    if form == "points":
        found = list(parts)
    else:
        if len(parts) != len(shape) or any(start < 0 or step < 1 or count < 0 for start, step, count in parts):
            raise InvalidSelection("")
        places = [[start + step * number for number in range(count)] for start, step, count in parts]
        found = list(itertools.product(*places))
    for index in found:
        if len(index) != len(shape) or not all(0 <= place < size for place, size in zip(index, shape)):
            raise InvalidSelection("")
    return found


def check_shape(shape):
    if len(shape) > 4 or not all(0 <= size <= 10 ** 9 for size in shape):
        raise InvalidShape("")


def check_value(kind, value):
    low, high = RANGES[kind]
    if not low <= value <= high:
        raise InvalidValue(value)


def is_attribute(name, value):
    if not NAME.fullmatch(name):
        return False
    if isinstance(value, str):
        return len(value) <= 200 and all(" " <= sign <= "~" and sign != "%" for sign in value)
    return len(value) <= 50 and all(abs(number) < 10 ** 30 for number in value)


def is_piece(piece, shape):
    path, source, target, counts = piece
    if path == "" or not is_path(path) or not len(source) == len(target) == len(counts) == len(shape):
        return False
    if min(source + target + (0,)) < 0 or min(counts + (1,)) < 1:
        return False
    return all(start + count <= size for start, count, size in zip(target, counts, shape))


class PlainStore:
    def __init__(self):
        self.things = {"": {"sort": "group", "attributes": {}}}
        self.batch = 0
        self.sealed = copy.deepcopy(self.things)

    def commit(self):
        self.batch += 1
        self.sealed = copy.deepcopy(self.things)

    def discard(self):
        self.things = copy.deepcopy(self.sealed)

    def check_named(self, path):
        if path == "" or not is_path(path):
            raise InvalidPath(path)

    def check_place(self, path):
        if path in self.things:
            raise AlreadyThere(path)
        if self.things.get(above(path), {"sort": None})["sort"] != "group":
            raise NotAGroup(above(path))

    def thing(self, path, *sorts):
        if not is_path(path):
            raise InvalidPath(path)
        if path not in self.things:
            raise NotFound(path)
        if sorts and self.things[path]["sort"] not in sorts:
            raise NotAnArray(path)
        return self.things[path]

    def make_group(self, path):
        self.check_named(path)
        self.check_place(path)
        self.things[path] = {"sort": "group", "attributes": {}}

    def make_array(self, path, kind, shape, *, chunks, fill=0, filters=()):
        self.check_named(path)
        self.check_place(path)
        if kind not in RANGES:
            raise InvalidPart("")
        check_shape(shape)
        if len(chunks) != len(shape) or min(chunks + (1,)) < 1 or count_of(chunks) > 4096:
            raise InvalidPart("")
        if len(filters) > 6 or any(name not in FILTERS for name in filters):
            raise InvalidPart("")
        check_value(kind, fill)
        self.things[path] = {
            "sort": "array", "attributes": {}, "kind": kind, "shape": shape, "fill": fill, "values": {},
            "chunks": chunks, "filters": filters,
        }

    def make_view(self, path, kind, shape, *, pieces, fill=0):
        self.check_named(path)
        self.check_place(path)
        if kind not in RANGES:
            raise InvalidPart("")
        check_shape(shape)
        check_value(kind, fill)
        self.check_pieces(pieces, shape)
        self.things[path] = {
            "sort": "view", "attributes": {}, "kind": kind, "shape": shape, "fill": fill, "pieces": list(pieces),
        }

    def check_pieces(self, pieces, shape):
        if len(pieces) > 10 or not all(is_piece(piece, shape) for piece in pieces):
            raise InvalidPart("")

    def add_piece(self, path, piece):
        view = self.thing(path, "view")
        self.check_pieces(view["pieces"] + [piece], view["shape"])
        view["pieces"].append(piece)

    def remove(self, path):
        self.check_named(path)
        self.thing(path)
        for old in [old for old in self.things if old == path or is_in(old, path)]:
            del self.things[old]

    def carried(self, path, other):
        self.check_named(path)
        self.check_named(other)
        self.thing(path)
        if path == other or is_in(other, path):
            raise IntoItself(other)
        self.check_place(other)
        olds = sorted(old for old in self.things if old == path or is_in(old, path))
        for old in olds:
            if not is_path(other + old[len(path):]):
                raise InvalidPath(other + old[len(path):])
        return olds

    def move(self, path, other):
        for old in self.carried(path, other):
            self.things[other + old[len(path):]] = self.things.pop(old)

    def duplicate(self, path, other):
        for old in self.carried(path, other):
            self.things[other + old[len(path):]] = copy.deepcopy(self.things[old])

    def set_attribute(self, path, name, value):
        attributes = self.thing(path)["attributes"]
        if not is_attribute(name, value) or len(set(attributes) | {name}) > 20:
            raise InvalidPart("")
        attributes[name] = value

    def remove_attribute(self, path, name):
        attributes = self.thing(path)["attributes"]
        if name not in attributes:
            raise NoAttribute(name)
        del attributes[name]

    def attributes_of(self, path):
        return sorted(self.thing(path)["attributes"].items())

    def write(self, path, selection, values):
        array = self.thing(path, "array")
        indexes = picked_of(array["shape"], selection)
        if len(values) != len(indexes):
            raise WrongCount(len(indexes), len(values))
        for value in values:
            check_value(array["kind"], value)
        array["values"].update(zip(indexes, values))

    def resize(self, path, shape):
        array = self.thing(path, "array")
        check_shape(shape)
        if len(shape) != len(array["shape"]):
            raise InvalidShape("")
        kept = {}
        for index, value in array["values"].items():
            if all(place < size for place, size in zip(index, shape)):
                kept[index] = value
        array.update(shape=shape, values=kept)

    def read(self, path, selection):
        thing = self.thing(path, "array", "view")
        value = self.array_value if thing["sort"] == "array" else self.view_value
        return [value(thing, index) for index in picked_of(thing["shape"], selection)]

    def array_value(self, array, index):
        return array["values"].get(index, array["fill"])

    def view_value(self, view, index):
        for path, source, target, counts in reversed(view["pieces"]):
            if all(start <= place < start + count for place, start, count in zip(index, target, counts)):
                array = self.things.get(path, {"sort": None})
                there = tuple([place - start + begin for place, start, begin in zip(index, target, source)])
                if array["sort"] != "array" or len(array["shape"]) != len(there):
                    return view["fill"]
                if not all(place < size for place, size in zip(there, array["shape"])):
                    return view["fill"]
                value = self.array_value(array, there)
                low, high = RANGES[view["kind"]]
                return value if low <= value <= high else view["fill"]
        return view["fill"]

    def kind_at(self, path):
        return self.thing(path)["sort"]

    def shape_of(self, path):
        return self.thing(path, "array", "view")["shape"]

    def layout_of(self, path):
        array = self.thing(path, "array")
        return PlainLayout(array["kind"], array["chunks"], array["fill"], array["filters"])

    def pieces_of(self, path):
        return tuple(self.thing(path, "view")["pieces"])

    def names_in(self, path):
        if self.thing(path)["sort"] != "group":
            raise NotAGroup(path)
        return sorted(old.split("/")[-1] for old in self.things if old != "" and above(old) == path)

    def paths(self):
        return sorted(self.things)


class PlainLayout:
    def __init__(self, kind, chunk_shape, fill, filters):
        self.kind, self.chunk_shape, self.fill, self.filters = kind, chunk_shape, fill, filters
