"""Filters of lists of bytes, and chains of them (points 13 to 15)."""

from tessera.errors import BadFilter

FILTERS = ("delta", "planes", "runs", "zeros")
LONGEST_CHAIN = 6
LONGEST_RUN = 255
MOST_ZEROS = 65535


def is_chain(names):
    """Tell whether the tuple of strings is a chain."""
    return len(names) <= LONGEST_CHAIN and all([name in FILTERS for name in names])


def apply_filter(name, values, size):
    """Return what the filter turns the bytes into; `size` is the width."""
    if name == "delta":
        return apply_delta(values)
    if name == "planes":
        return apply_planes(values, size)
    if name == "runs":
        return apply_runs(values)
    return apply_zeros(values)


def undo_filter(name, values, size):
    """Return the bytes that the filter turned into these."""
    if name == "delta":
        return undo_delta(values)
    if name == "planes":
        return undo_planes(values, size)
    if name == "runs":
        return undo_runs(values)
    return undo_zeros(values)


def apply_chain(names, values, size):
    """Return what the filters turn the bytes into, one after another."""
    passed = list(values)
    for name in names:
        passed = apply_filter(name, passed, size)
    return passed


def undo_chain(names, values, size):
    """Return the bytes that the filters turned into these, one after another."""
    passed = list(values)
    for name in reversed(names):
        passed = undo_filter(name, passed, size)
    return passed


def apply_delta(values):
    """Return the differences of each byte and the one before it."""
    differences = []
    before = 0
    for value in values:
        differences.append((value - before) % 256)
        before = value
    return differences


def undo_delta(values):
    """Return the bytes that have these differences."""
    summed = []
    before = 0
    for value in values:
        before = (before + value) % 256
        summed.append(before)
    return summed


def plane_order(count, size):
    """Return the places of `count` bytes in the order of the planes."""
    return [place for plane in range(size) for place in range(plane, count, size)]


def apply_planes(values, size):
    """Return the bytes plane by plane."""
    return [values[place] for place in plane_order(len(values), size)]


def undo_planes(values, size):
    """Return the bytes that were dealt into these planes."""
    dealt = [0] * len(values)
    for place, value in zip(plane_order(len(values), size), values):
        dealt[place] = value
    return dealt


def apply_runs(values):
    """Return the pairs of a count and a byte, for the runs of equal bytes."""
    pairs = []
    start = 0
    while start < len(values):
        behind = start + 1
        while behind < len(values) and behind - start < LONGEST_RUN and values[behind] == values[start]:
            behind = behind + 1
        pairs.extend([behind - start, values[start]])
        start = behind
    return pairs


def undo_runs(values):
    """Return the bytes that have these runs."""
    if len(values) % 2 == 1:
        raise BadFilter("runs")
    counts = values[0::2]
    repeated = values[1::2]
    for at in range(len(counts)):
        if counts[at] == 0:
            raise BadFilter("runs")
        # A shorter run before another pair of the same byte could be longer.
        if at > 0 and counts[at - 1] < LONGEST_RUN and repeated[at - 1] == repeated[at]:
            raise BadFilter("runs")
    unpacked = []
    for count, value in zip(counts, repeated):
        unpacked.extend([value] * count)
    return unpacked


def apply_zeros(values):
    """Return the number of zeros at the end, and the bytes without them."""
    kept = len(values)
    while kept > 0 and values[kept - 1] == 0 and len(values) - kept < MOST_ZEROS:
        kept = kept - 1
    count = len(values) - kept
    return [count // 256, count % 256] + values[:kept]


def undo_zeros(values):
    """Return the bytes with their zeros at the end."""
    if len(values) < 2:
        raise BadFilter("zeros")
    count = values[0] * 256 + values[1]
    if len(values) > 2 and values[-1] == 0 and count < MOST_ZEROS:
        raise BadFilter("zeros")
    return values[2:] + [0] * count
