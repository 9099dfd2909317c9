"""Layouts: how arrays are divided into chunks (points 28 and 29)."""

from tessera.selections import picked
from tessera.shapes import element_count, is_shape, rank_of

MOST_IN_CHUNK = 4096


class Layout:
    """How the elements of an array are stored."""

    def __init__(self, kind, chunk_shape, fill, filters):
        self.kind = kind
        self.chunk_shape = chunk_shape
        self.fill = fill
        self.filters = filters

    def __eq__(self, other):
        return (
            isinstance(other, Layout) and self.kind == other.kind and self.chunk_shape == other.chunk_shape
            and self.fill == other.fill and self.filters == other.filters
        )


def is_chunk_shape(shape, dimensions):
    """Tell whether the tuple of integers is a chunk shape for this number of dimensions."""
    if len(shape) != dimensions or not is_shape(shape):
        return False
    return 1 <= element_count(shape) <= MOST_IN_CHUNK


def grid_index(chunk_shape, index):
    """Return the grid index of the chunk that contains the index."""
    return tuple([place // size for place, size in zip(index, chunk_shape)])


def rank_in_chunk(chunk_shape, index):
    """Return the rank that the element with this index has in its chunk."""
    return rank_of(chunk_shape, tuple([place % size for place, size in zip(index, chunk_shape)]))


def grids_of(layout, shape, selection):
    """Return the ascending list of the grid indexes of the chunks that hold what is picked."""
    indexes = picked(shape, selection)
    return sorted({grid_index(layout.chunk_shape, index) for index in indexes})
