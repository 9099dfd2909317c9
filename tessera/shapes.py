"""Shapes and their indexes in row order (point 9)."""

MOST_DIMENSIONS = 4
GREATEST_SIZE = 10 ** 9


def is_shape(shape):
    """Tell whether the tuple is a shape."""
    return len(shape) <= MOST_DIMENSIONS and all([0 <= size <= GREATEST_SIZE for size in shape])


def element_count(shape):
    """Return how many indexes the shape has."""
    count = 1
    for size in shape:
        count = count * size
    return count


def rank_of(shape, index):
    """Return how many indexes of the shape stand before this one in row order."""
    rank = 0
    for size, place in zip(shape, index):
        rank = rank * size + place
    return rank


def index_of(shape, rank):
    """Return the index of the shape that has this rank."""
    places = []
    rest = rank
    for size in reversed(shape):
        places.append(rest % size)
        rest = rest // size
    return tuple(places[::-1])


def indexes_in(shape):
    """Go through the indexes of the shape in row order."""
    for rank in range(element_count(shape)):
        yield index_of(shape, rank)
