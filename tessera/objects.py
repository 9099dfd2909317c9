"""Groups, arrays and views, and how they are written (points 34 and 35)."""

from tessera.errors import Unreadable
from tessera.filters import is_chain
from tessera.kinds import KINDS, in_range
from tessera.layouts import Layout, is_chunk_shape
from tessera.numbers import is_text_code, write_integers, write_number, write_text
from tessera.paths import is_name, is_path
from tessera.readers import Reader
from tessera.shapes import is_shape

GROUP_SORT = 1
ARRAY_SORT = 2
VIEW_SORT = 3
TEXT_VALUE = 0
LIST_VALUE = 1

MOST_ATTRIBUTES = 20
LONGEST_TEXT = 200
MOST_INTEGERS = 50
BEYOND_INTEGERS = 10 ** 30
MOST_PIECES = 10


class Group:
    """A group, which has nothing but attributes."""

    def __init__(self, attributes):
        self.attributes = in_order(attributes)


class ArrayObject:
    """An array: its shape, its layout and the root pointer of its index."""

    def __init__(self, attributes, shape, layout, root):
        self.attributes = in_order(attributes)
        self.shape = shape
        self.layout = layout
        self.root = root


class View:
    """A view of parts of arrays."""

    def __init__(self, attributes, kind, shape, fill, pieces):
        self.attributes = in_order(attributes)
        self.kind = kind
        self.shape = shape
        self.fill = fill
        self.pieces = tuple(pieces)


def in_order(attributes):
    """Return the attributes in ascending order of their names."""
    return tuple(sorted(attributes, key=lambda pair: pair[0]))


def with_attributes(thing, attributes):
    """Return the same object with other attributes."""
    if isinstance(thing, Group):
        return Group(attributes)
    if isinstance(thing, ArrayObject):
        return ArrayObject(attributes, thing.shape, thing.layout, thing.root)
    return View(attributes, thing.kind, thing.shape, thing.fill, thing.pieces)


def is_attribute(name, value):
    """Tell whether an attribute may have this name and this value."""
    if not is_name(name):
        return False
    if isinstance(value, str):
        return len(value) <= LONGEST_TEXT and all([is_text_code(ord(character)) for character in value])
    return len(value) <= MOST_INTEGERS and all([abs(number) < BEYOND_INTEGERS for number in value])


def are_attributes(attributes):
    """Tell whether an object may have these attributes, in this order."""
    if len(attributes) > MOST_ATTRIBUTES:
        return False
    names = [name for name, _ in attributes]
    if names != sorted(set(names)):
        return False
    return all([is_attribute(name, value) for name, value in attributes])


def is_piece(piece, shape):
    """Tell whether a view of this shape may have the piece."""
    path, source, target, counts = piece
    if path == "" or not is_path(path):
        return False
    if any([len(places) != len(shape) for places in (source, target, counts)]):
        return False
    if any([place < 0 for place in source + target]) or any([count < 1 for count in counts]):
        return False
    return all([start + count <= size for start, count, size in zip(target, counts, shape)])


def are_pieces(pieces, shape):
    """Tell whether a view of this shape may have these pieces."""
    return len(pieces) <= MOST_PIECES and all([is_piece(piece, shape) for piece in pieces])


def write_object(thing):
    """Return the content of the record of the object."""
    if isinstance(thing, Group):
        return [GROUP_SORT] + write_attributes(thing.attributes)
    if isinstance(thing, ArrayObject):
        return [ARRAY_SORT] + write_attributes(thing.attributes) + write_array(thing)
    return [VIEW_SORT] + write_attributes(thing.attributes) + write_view(thing)


def write_attributes(attributes):
    """Return the bytes of the attributes."""
    content = write_number(len(attributes))
    for name, value in attributes:
        content.extend(write_text(name))
        if isinstance(value, str):
            content.extend([TEXT_VALUE] + write_text(value))
        else:
            content.extend([LIST_VALUE] + write_integers(value))
    return content


def write_array(thing):
    """Return the bytes of what only an array has."""
    layout = thing.layout
    content = write_text(layout.kind) + write_integers(thing.shape)
    content.extend(write_integers(layout.chunk_shape) + write_integers([layout.fill]))
    content.extend(write_number(len(layout.filters)))
    for name in layout.filters:
        content.extend(write_text(name))
    address, length = thing.root
    return content + write_number(address) + write_number(length)


def write_view(thing):
    """Return the bytes of what only a view has."""
    content = write_text(thing.kind) + write_integers(thing.shape) + write_integers([thing.fill])
    content.extend(write_number(len(thing.pieces)))
    for path, source, target, counts in thing.pieces:
        content.extend(write_text(path))
        content.extend(write_integers(source) + write_integers(target) + write_integers(counts))
    return content


def read_object(content):
    """Return the object with this content, or None if there is none."""
    reader = Reader(content)
    try:
        thing = read_thing(reader)
    except Unreadable:
        return None
    return thing if reader.is_done() else None


def read_thing(reader):
    """Return the object that is written next, or None if its parts are not valid."""
    sort = reader.number()
    attributes = [read_attribute(reader) for _ in range(reader.number())]
    if not are_attributes(attributes):
        return None
    if sort == GROUP_SORT:
        return Group(attributes)
    if sort == ARRAY_SORT:
        return read_array(reader, attributes)
    if sort == VIEW_SORT:
        return read_view(reader, attributes)
    return None


def read_attribute(reader):
    """Return the attribute that is written next."""
    name = reader.text()
    at = reader.at
    sort = reader.number()
    if sort == TEXT_VALUE:
        return name, reader.text()
    if sort == LIST_VALUE:
        return name, reader.integers()
    raise Unreadable(at)


def read_array(reader, attributes):
    """Return the array with these attributes, or None if its parts are not valid."""
    kind, shape, chunk_shape, fills = reader.text(), reader.integers(), reader.integers(), reader.integers()
    filters = tuple([reader.text() for _ in range(reader.number())])
    root = (reader.number(), reader.number())
    if not (are_values(kind, shape, fills) and is_chunk_shape(chunk_shape, len(shape)) and is_chain(filters)):
        return None
    return ArrayObject(attributes, shape, Layout(kind, chunk_shape, fills[0], filters), root)


def read_view(reader, attributes):
    """Return the view with these attributes, or None if its parts are not valid."""
    kind, shape, fills = reader.text(), reader.integers(), reader.integers()
    pieces = [read_piece(reader) for _ in range(reader.number())]
    if not (are_values(kind, shape, fills) and are_pieces(pieces, shape)):
        return None
    return View(attributes, kind, shape, fills[0], pieces)


def read_piece(reader):
    """Return the piece that is written next."""
    return reader.text(), reader.integers(), reader.integers(), reader.integers()


def are_values(kind, shape, fills):
    """Tell whether this is a kind, a shape, and one fill value in the range of the kind."""
    return kind in KINDS and is_shape(shape) and len(fills) == 1 and in_range(kind, fills[0])
