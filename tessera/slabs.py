"""Slabs: parts of chunked arrays, and their resizing (points 30 and 31)."""

from tessera.chunks import load_chunk, read_chunk, save_chunk
from tessera.errors import WrongCount
from tessera.kinds import check_range
from tessera.layouts import grid_index, rank_in_chunk
from tessera.selections import is_index, picked
from tessera.shapes import indexes_in
from tessera.trees import entries, exchange


def read_slab(log, layout, root, shape, selection):
    """Return the values at the indexes that the selection picks."""
    indexes = picked(shape, selection)
    values = [layout.fill] * len(indexes)
    places = places_in_chunks(layout.chunk_shape, indexes)
    for grid in sorted(places):
        chunk = load_chunk(log, layout, root, grid)
        for number, rank in places[grid]:
            values[number] = chunk[rank]
    return values


def write_slab(log, layout, root, shape, selection, values):
    """Return the root with these values at the indexes that the selection picks."""
    indexes = picked(shape, selection)
    if len(values) != len(indexes):
        raise WrongCount(len(indexes), len(values))
    check_range(layout.kind, values)
    places = places_in_chunks(layout.chunk_shape, indexes)
    # All chunks are loaded before one is saved. So a damaged one is told before
    # anything changes.
    chunks = [(grid, load_chunk(log, layout, root, grid)) for grid in sorted(places)]
    for grid, chunk in chunks:
        for number, rank in places[grid]:
            chunk[rank] = values[number]
    return save_chunks(log, layout, root, chunks)


def places_in_chunks(chunk_shape, indexes):
    """Return, for each grid index, where the indexes in its chunk stand.

    They stand at a number in the list of indexes and at a rank in the chunk.
    """
    places = {}
    for number, index in enumerate(indexes):
        place = (number, rank_in_chunk(chunk_shape, index))
        places.setdefault(grid_index(chunk_shape, index), []).append(place)
    return places


def save_chunks(log, layout, root, chunks):
    """Return the root of the tree that finds the values of these chunks."""
    saved = root
    for grid, values in chunks:
        saved = save_chunk(log, layout, saved, grid, values)
    return saved


def resize_slabs(log, layout, root, old, new):
    """Return the root of the array after resizing it from the shape `old` to `new`."""
    low = first_cut(layout.chunk_shape, old, new)
    if low is None:
        return root
    rows = list(entries(log, root, low=low))
    gone = [grid for grid, _ in rows if is_outside(layout.chunk_shape, grid, new)]
    cut = [row for row in rows if is_cut(layout.chunk_shape, row[0], old, new)]
    chunks = [(grid, cut_values(log, layout, pointer, grid, new)) for grid, pointer in cut]
    return save_chunks(log, layout, exchange(log, root, [], gone), chunks)


def first_cut(chunk_shape, old, new):
    """Return the least key of chunks that may lose something, or None if none does."""
    firsts = [
        (0,) * at + (new[at] // size,) for at, size in enumerate(chunk_shape) if new[at] < old[at]
    ]
    return min(firsts) if firsts else None


def is_outside(chunk_shape, grid, shape):
    """Tell whether the chunk lies outside of the shape as a whole."""
    return any([place * size >= end for place, size, end in zip(grid, chunk_shape, shape)])


def is_cut(chunk_shape, grid, old, new):
    """Tell whether the chunk lies in the new shape in part, and loses elements of the old one."""
    if is_outside(chunk_shape, grid, new):
        return False
    behind = [min(end, (place + 1) * size) for place, size, end in zip(grid, chunk_shape, old)]
    return any([last > end for last, end in zip(behind, new)])


def cut_values(log, layout, pointer, grid, shape):
    """Return the values of the chunk, with the fill value outside of the shape."""
    return filled_outside(layout, read_chunk(log, layout, pointer), grid, shape)


def filled_outside(layout, values, grid, shape):
    """Return these values of a chunk, with the fill value at the indexes outside of the shape."""
    filled = list(values)
    corner = [place * size for place, size in zip(grid, layout.chunk_shape)]
    for rank, inner in enumerate(indexes_in(layout.chunk_shape)):
        if not is_index(shape, tuple([start + place for start, place in zip(corner, inner)])):
            filled[rank] = layout.fill
    return filled
