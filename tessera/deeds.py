"""What deeds do to a directory (point 39).

A directory is given by a log and its root pointer; a deed gives the new root.
"""

from tessera.directories import check_there, pointer_at, rows_between, thing_at
from tessera.errors import AlreadyThere, InvalidPart, InvalidPath, InvalidShape, IntoItself, NotAGroup
from tessera.filters import is_chain
from tessera.kinds import KINDS, check_range
from tessera.layouts import is_chunk_shape
from tessera.objects import Group, are_pieces, write_object
from tessera.paths import ZERO_CODE, is_path, key_of, lies_in, parent
from tessera.records import OBJECT
from tessera.shapes import is_shape
from tessera.trees import exchange, put


def check_named(path):
    """Refuse a path that is not valid or empty."""
    if path == "" or not is_path(path):
        raise InvalidPath(path)


def check_place(log, root, path):
    """Refuse a path at which nothing can be made."""
    if pointer_at(log, root, path) is not None:
        raise AlreadyThere(path)
    above = parent(path)
    if not isinstance(thing_at(log, root, above), Group):
        raise NotAGroup(above)


def check_kind_and_shape(kind, shape):
    """Refuse what is not a kind or not a shape."""
    if kind not in KINDS:
        raise InvalidPart("the kind is none of the six")
    if not is_shape(shape):
        raise InvalidShape("the shape is not valid")


def check_array_parts(kind, shape, chunks, fill, filters):
    """Refuse parts of which no array can be made."""
    check_kind_and_shape(kind, shape)
    if not is_chunk_shape(chunks, len(shape)):
        raise InvalidPart("the chunk shape does not fit the shape")
    if not is_chain(filters):
        raise InvalidPart("the filters are no chain")
    check_range(kind, [fill])


def check_view_parts(kind, shape, pieces, fill):
    """Refuse parts of which no view can be made."""
    check_kind_and_shape(kind, shape)
    check_range(kind, [fill])
    check_pieces(pieces, shape)


def check_pieces(pieces, shape):
    """Refuse pieces that a view of this shape cannot have."""
    if not are_pieces(pieces, shape):
        raise InvalidPart("there are too many pieces, or one is not valid")


def with_object(log, root, path, thing):
    """Return the directory with this object at the path."""
    return put(log, root, key_of(path), log.put(OBJECT, write_object(thing)))


def rows_from(log, root, path):
    """Return the pairs of a path and a pointer for the path and all that lies in it."""
    key = key_of(path)
    return rows_between(log, root, key, key + (ZERO_CODE,))


def without_path(log, root, path):
    """Return the directory without the path and all that lies in it."""
    check_named(path)
    check_there(log, root, path)
    return exchange(log, root, [], [key_of(old) for old, _ in rows_from(log, root, path)])


def moved(log, root, path, other):
    """Return the directory in which what was at the path is at the other one."""
    rows = rows_to_carry(log, root, path, other)
    return exchange(log, root, carried(rows, path, other), [key_of(old) for old, _ in rows])


def copied(log, root, path, other):
    """Return the directory in which what is at the path is at the other one, too."""
    rows = rows_to_carry(log, root, path, other)
    return exchange(log, root, carried(rows, path, other), [])


def rows_to_carry(log, root, path, other):
    """Return the rows of what is moved or copied from the path to the other one."""
    check_named(path)
    check_named(other)
    check_there(log, root, path)
    if other == path or lies_in(other, path):
        raise IntoItself(other)
    check_place(log, root, other)
    return rows_from(log, root, path)


def carried(rows, path, other):
    """Return the pairs of the new keys and the pointers of the rows."""
    pairs = []
    for old, pointer in rows:
        new = other + old[len(path):]
        if not is_path(new):
            raise InvalidPath(new)
        pairs.append((key_of(new), pointer))
    return pairs
