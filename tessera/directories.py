"""Looking up objects in a directory (point 36).

A directory is given by a log and the root pointer of the tree.
"""

from tessera.errors import Damaged, InvalidPath, NotAnArray, NotFound
from tessera.objects import ArrayObject, Group, View, read_object
from tessera.paths import is_path, key_of, path_of
from tessera.records import OBJECT
from tessera.trees import entries, find


def pointer_at(log, root, path):
    """Return the pointer of the object at the path, or None."""
    return find(log, root, key_of(path))


def check_there(log, root, path):
    """Refuse a path at which there is nothing."""
    if pointer_at(log, root, path) is None:
        raise NotFound(path)


def fetch_object(log, pointer):
    """Return the object whose record has this pointer."""
    thing = read_object(log.fetch(OBJECT, pointer))
    if thing is None:
        address, length = pointer
        raise Damaged(address, length)
    return thing


def thing_at(log, root, path):
    """Return the object at the path, or None."""
    pointer = pointer_at(log, root, path)
    if pointer is None:
        return None
    return fetch_object(log, pointer)


def object_at(log, root, path):
    """Return the object at the path; it must be there."""
    if not is_path(path):
        raise InvalidPath(path)
    thing = thing_at(log, root, path)
    if thing is None:
        raise NotFound(path)
    return thing


def array_at(log, root, path):
    """Return the array at the path."""
    thing = object_at(log, root, path)
    if not isinstance(thing, ArrayObject):
        raise NotAnArray(path)
    return thing


def view_at(log, root, path):
    """Return the view at the path."""
    thing = object_at(log, root, path)
    if not isinstance(thing, View):
        raise NotAnArray(path)
    return thing


def array_or_view_at(log, root, path):
    """Return the array or the view at the path."""
    thing = object_at(log, root, path)
    if isinstance(thing, Group):
        raise NotAnArray(path)
    return thing


def rows_between(log, root, low, high):
    """Return the pairs of a path and a pointer with keys from `low` up to `high`."""
    return [(path_of(key), pointer) for key, pointer in entries(log, root, low=low, high=high)]
