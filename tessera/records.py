"""Records: checked lists of bytes in a file (points 17 and 18)."""

from tessera.errors import Damaged
from tessera.numbers import HIGHEST_BYTE, check_of

# The byte of the kind and the two bytes of the check.
SHORTEST_RECORD = 3


def make_record(kind, content):
    """Return the bytes of a record."""
    checked = [kind] + content
    return checked + check_of(checked)


def is_whole(found, kind):
    """Tell whether the bytes are a record of the kind."""
    if len(found) < SHORTEST_RECORD or max(found) > HIGHEST_BYTE:
        return False
    return found[0] == kind and check_of(found[:-2]) == found[-2:]


def read_record(disk, kind, pointer):
    """Return the content of the record with this pointer and kind."""
    address, length = pointer
    found = disk.part(address, length)
    if len(found) < length or not is_whole(found, kind):
        raise Damaged(address, length)
    return found[1:-2]
