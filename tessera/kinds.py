"""Kinds of values, and how values are stored (points 7 and 8)."""

from tessera.errors import InvalidValue

KINDS = ("i1", "i2", "i4", "u1", "u2", "u4")


def width(kind):
    """Return the number of bytes of a value of the kind."""
    return int(kind[1])


def value_count(kind):
    """Return how many values the range of the kind has: 256 ** width."""
    return 1 << 8 * width(kind)


def least(kind):
    """Return the least value of the range."""
    if kind[0] == "i":
        return -(value_count(kind) // 2)
    return 0


def greatest(kind):
    """Return the greatest value of the range."""
    return least(kind) + value_count(kind) - 1


def in_range(kind, value):
    """Tell whether the value is in the range of the kind."""
    return least(kind) <= value <= greatest(kind)


def check_range(kind, values):
    """Raise InvalidValue for the first value that is outside of the range."""
    low, high = least(kind), greatest(kind)
    for value in values:
        if value < low or value > high:
            raise InvalidValue(value)


def store_values(kind, values):
    """Return the bytes of the values, one value after another."""
    check_range(kind, values)
    size = width(kind)
    count = value_count(kind)
    stored = []
    for value in values:
        # The modulus turns a negative value z into 256 ** width + z.
        rest = value % count
        for _ in range(size):
            stored.append(rest % 256)
            rest = rest // 256
    return stored


def load_values(kind, stored):
    """Return the values that the bytes store."""
    size = width(kind)
    count = value_count(kind)
    high = greatest(kind)
    values = []
    for start in range(0, len(stored), size):
        value = 0
        for at in range(start + size - 1, start - 1, -1):
            value = value * 256 + stored[at]
        if value > high:
            value = value - count
        values.append(value)
    return values
