"""Records: checked lists of bytes in a file (points 17 and 18)."""

from tessera.errors import Damaged
from tessera.numbers import HIGHEST_BYTE, check_of

LEAF = 1
INNER = 2
CHUNK = 3
OBJECT = 4

# The pointer that points to nothing.
NOWHERE = (0, 0)

# The byte of the kind and the two bytes of the check.
SHORTEST_RECORD = 3


def make_record(kind, content):
    """Return the bytes of a record."""
    checked = [kind] + content
    return checked + check_of(checked)


def is_whole(found, kind):
    """Tell whether the bytes are a record of the kind."""
    if len(found) < SHORTEST_RECORD or found[0] != kind or max(found) > HIGHEST_BYTE:
        return False
    return check_of(found[:-2]) == found[-2:]


def content_of(found, kind, pointer):
    """Return the content of the record that was found where the pointer points to."""
    address, length = pointer
    if len(found) < length or not is_whole(found, kind):
        raise Damaged(address, length)
    return found[1:-2]


def read_record(disk, kind, pointer):
    """Return the content of the record with this pointer and kind."""
    address, length = pointer
    return content_of(disk.part(address, length), kind, pointer)
