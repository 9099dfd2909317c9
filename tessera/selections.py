"""Selections of the indexes of a shape (points 10 and 11)."""

from tessera.errors import InvalidSelection, TooLarge

MOST_PICKED = 100000


def whole(shape):
    """Return the box that picks all indexes of the shape."""
    return "box", tuple([(0, 1, size) for size in shape])


def selection_size(selection):
    """Return how many indexes the selection picks, with repetitions."""
    form, parts = selection
    if form == "points":
        return len(parts)
    size = 1
    for _, _, count in parts:
        size = size * count
    return size


def fits(shape, selection):
    """Tell whether the selection fits the shape."""
    form, parts = selection
    if form == "points":
        return all([is_index(shape, index) for index in parts])
    return box_fits(shape, parts)


def is_index(shape, index):
    """Tell whether a tuple of integers is an index of the shape."""
    if len(index) != len(shape):
        return False
    return all([0 <= place < size for place, size in zip(index, shape)])


def box_fits(shape, ranges):
    """Tell whether the box with these ranges fits the shape."""
    if len(ranges) != len(shape):
        return False
    if not all([start >= 0 and step >= 1 and count >= 0 for start, step, count in ranges]):
        return False
    # A box with an empty range picks nothing, so its other ranges may reach
    # beyond the shape.
    if any([count == 0 for _, _, count in ranges]):
        return True
    lasts = [start + step * (count - 1) for start, step, count in ranges]
    return all([last < size for last, size in zip(lasts, shape)])


def picked(shape, selection):
    """Return the list of the indexes that the selection picks, in its order."""
    if not fits(shape, selection):
        raise InvalidSelection("the selection does not fit the shape")
    size = selection_size(selection)
    if size > MOST_PICKED:
        raise TooLarge(MOST_PICKED)
    form, parts = selection
    if form == "points":
        return list(parts)
    # The counts before an empty range may be great, so they are not gone through.
    if size == 0:
        return []
    return box_indexes(parts)


def box_indexes(ranges):
    """Return the indexes that a box with counts of at least 1 picks, in row order."""
    indexes = [()]
    for start, step, count in ranges:
        places = [start + step * number for number in range(count)]
        indexes = [index + (place,) for index in indexes for place in places]
    return indexes


def meeting(first, second):
    """Return the plain box of what both plain boxes pick, or None if that is nothing."""
    ranges = []
    for one, other in zip(first[1], second[1]):
        start = max(one[0], other[0])
        behind = min(one[0] + one[2], other[0] + other[2])
        if start >= behind:
            return None
        ranges.append((start, 1, behind - start))
    return "box", tuple(ranges)
