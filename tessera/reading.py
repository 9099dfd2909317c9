"""The questions that a directory answers (points 39 to 43).

They change nothing, so they can be asked of any directory, given by a log and
its root pointer.
"""

from tessera.chunks import read_chunk
from tessera.directories import array_at, array_or_view_at, object_at, rows_between, thing_at
from tessera.errors import NotAGroup
from tessera.kinds import in_range
from tessera.objects import ArrayObject, Group, View
from tessera.paths import SLASH, range_in
from tessera.selections import is_index, picked
from tessera.slabs import read_slab
from tessera.trees import entries, find
from tessera.views import deciding_piece, source_index


def word_for(thing):
    """Return the word for the sort of the object."""
    if isinstance(thing, Group):
        return "group"
    if isinstance(thing, View):
        return "view"
    return "array"


def paths_of_all(log, root):
    """Return all paths in ascending order of their keys."""
    return [path for path, _ in rows_between(log, root, (), None)]


def names_in_group(log, root, path):
    """Return the names directly in the group, in ascending order."""
    if not isinstance(object_at(log, root, path), Group):
        raise NotAGroup(path)
    low, high = range_in(path)
    # The keys of paths stand in the order of the paths, and so of the last names.
    start = len(path) + 1 if path else 0
    rests = [inner[start:] for inner, _ in rows_between(log, root, low, high)]
    return [rest for rest in rests if SLASH not in rest]


def pointer_of_chunk(log, root, path, grid):
    """Return the pointer of the record of a chunk, or None."""
    return find(log, array_at(log, root, path).root, grid)


def chunks_in_array(log, root, path):
    """Return the pairs of a grid index and the values of each chunk with a record, ascending."""
    array = array_at(log, root, path)
    return [(grid, read_chunk(log, array.layout, pointer)) for grid, pointer in entries(log, array.root)]


def read_values(log, root, path, selection):
    """Return the values that the selection picks of the array or view at the path."""
    thing = array_or_view_at(log, root, path)
    if isinstance(thing, View):
        return read_view_values(log, root, thing, selection)
    return read_slab(log, thing.layout, thing.root, thing.shape, selection)


def read_view_values(log, root, view, selection):
    """Return the values that the selection picks of the view."""
    indexes = picked(view.shape, selection)
    values = [view.fill] * len(indexes)
    places = places_in_arrays(view, indexes)
    for path in sorted(places):
        for number, value in values_shown(log, root, view, path, places[path]):
            values[number] = value
    return values


def places_in_arrays(view, indexes):
    """Return, for each path that decides for indexes, where they are looked up.

    They stand at a number in the list of indexes and at an index in the array.
    """
    places = {}
    for number, index in enumerate(indexes):
        at = deciding_piece(view, index)
        if at is not None:
            piece = view.pieces[at]
            places.setdefault(piece[0], []).append((number, source_index(piece, index)))
    return places


def values_shown(log, root, view, path, places):
    """Return the pairs of a number and a value for the places where the array has one."""
    thing = thing_at(log, root, path)
    if not isinstance(thing, ArrayObject):
        return []
    inside = [(number, index) for number, index in places if is_index(thing.shape, index)]
    points = ("points", tuple([index for _, index in inside]))
    values = read_slab(log, thing.layout, thing.root, thing.shape, points)
    return [(number, value) for (number, _), value in zip(inside, values) if in_range(view.kind, value)]
