"""Numbers, lists and texts as bytes, and the check (points 3 to 6)."""

from tessera.errors import Unreadable

BASE = 125
HIGHEST_BYTE = 249
ESCAPE = 249
HIGHEST_ESCAPED = 6
LOWEST_CODE = 32
HIGHEST_CODE = 126
PERCENT_CODE = 37
CHECK_MODULUS = 62500
CHECK_BASE = 250

# The characters with the codes from 32 to 126. The subset has no function that
# gives the character of a code, and no percent sign in strings: a space holds
# its place.
CHARACTERS = (
    " !\"#$ &'()*+,-./0123456789:;<=>?@ABCDEFGHIJKLMNOPQRSTUVWXYZ[\\]^_`"
    "abcdefghijklmnopqrstuvwxyz{|}~"
)


def write_number(number):
    """Return the bytes of a number that is not negative."""
    written = []
    rest = number
    while rest >= BASE:
        written.append(rest % BASE + BASE)
        rest = rest // BASE
    written.append(rest)
    return written


def write_integer(number):
    """Return the bytes of an integer of either sign."""
    if number < 0:
        return write_number(-2 * number - 1)
    return write_number(2 * number)


def write_integers(numbers):
    """Return the bytes of a list of integers."""
    written = write_number(len(numbers))
    for number in numbers:
        written.extend(write_integer(number))
    return written


def write_bytes(values):
    """Return the bytes of a list of any bytes."""
    written = write_number(len(values))
    for value in values:
        if value < ESCAPE:
            written.append(value)
        else:
            written.extend([ESCAPE, value - ESCAPE])
    return written


def write_text(text):
    """Return the bytes of a text."""
    return write_bytes([ord(character) for character in text])


def stands_at(values, index, highest):
    """Tell whether there is a byte at the index, and it is at most `highest`."""
    return 0 <= index < len(values) and values[index] <= highest


def read_number(values, index):
    """Return the number that is written at the index, and the index behind it."""
    if index < 0:
        raise Unreadable(index)
    number = 0
    weight = 1
    for at in range(index, len(values)):
        byte = values[at]
        if byte < BASE:
            if byte == 0 and at > index:
                break
            return number + byte * weight, at + 1
        if byte > HIGHEST_BYTE:
            break
        number = number + (byte - BASE) * weight
        weight = weight * BASE
    raise Unreadable(index)


def read_integer(values, index):
    """Return the integer that is written at the index, and the index behind it."""
    number, behind = read_number(values, index)
    if number % 2 == 1:
        return -((number + 1) // 2), behind
    return number // 2, behind


def read_byte(values, index):
    """Return the element of a list of bytes at the index, and the index behind it."""
    if not stands_at(values, index, HIGHEST_BYTE):
        raise Unreadable(index)
    if values[index] < ESCAPE:
        return values[index], index + 1
    if not stands_at(values, index + 1, HIGHEST_ESCAPED):
        raise Unreadable(index)
    return ESCAPE + values[index + 1], index + 2


def read_list(values, index, read_one):
    """Return the list that is written at the index, and the index behind it.

    `read_one` reads one element in the way of the other functions here.
    """
    count, behind = read_number(values, index)
    found = []
    try:
        while len(found) < count:
            thing, behind = read_one(values, behind)
            found.append(thing)
    except Unreadable:
        # The element names its own index, but the list began at this one.
        raise Unreadable(index) from None
    return found, behind


def read_integers(values, index):
    """Return the list of integers at the index, and the index behind it."""
    return read_list(values, index, read_integer)


def read_bytes(values, index):
    """Return the list of bytes at the index, and the index behind it."""
    return read_list(values, index, read_byte)


def is_text_code(code):
    """Tell whether a text may contain the character with this code."""
    return LOWEST_CODE <= code <= HIGHEST_CODE and code != PERCENT_CODE


def read_text(values, index):
    """Return the text that is written at the index, and the index behind it."""
    codes, behind = read_bytes(values, index)
    if not all([is_text_code(code) for code in codes]):
        raise Unreadable(index)
    return "".join([CHARACTERS[code - LOWEST_CODE] for code in codes]), behind


def check_of(values):
    """Return the check of a list of bytes, two bytes."""
    rest = sum(values) % CHECK_MODULUS
    return [rest // CHECK_BASE, rest % CHECK_BASE]
