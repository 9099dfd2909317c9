"""Sums over selections, and first differences (point 51)."""

from tessera.errors import InvalidShape
from tessera.selections import whole
from tessera.shapes import index_of


def summary(store, path, selection):
    """Return how many values are picked, their sum, and the least and the greatest one."""
    values = store.read(path, selection)
    if not values:
        return 0, 0, None, None
    return len(values), sum(values), min(values), max(values)


def first_difference(store, path, other):
    """Return the first index at which the two have different values, or None."""
    shape = store.shape_of(path)
    if store.shape_of(other) != shape:
        raise InvalidShape("the two shapes are different")
    lefts, rights = store.read(path, whole(shape)), store.read(other, whole(shape))
    for rank, (left, right) in enumerate(zip(lefts, rights)):
        if left != right:
            return index_of(shape, rank)
    return None
