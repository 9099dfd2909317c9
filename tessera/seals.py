"""Seals, which end batches (points 19 to 22)."""

from tessera.errors import NotAStore
from tessera.numbers import HIGHEST_BYTE, check_of

FIRST_BYTE = 255
LAST_BYTE = 254
SEAL_LENGTH = 28
NUMBER_LENGTH = 8
NUMBER_BASE = 250


def write_eight(number):
    """Return a number in eight bytes, the highest digit first."""
    digits = []
    rest = number
    for _ in range(NUMBER_LENGTH):
        digits.append(rest % NUMBER_BASE)
        rest = rest // NUMBER_BASE
    return digits[::-1]


def read_eight(digits):
    """Return the number that is written in eight bytes."""
    number = 0
    for digit in digits:
        number = number * NUMBER_BASE + digit
    return number


def make_seal(batch, root):
    """Return the bytes of one copy of a seal."""
    address, length = root
    told = write_eight(batch) + write_eight(address) + write_eight(length)
    return [FIRST_BYTE] + told + check_of(told) + [LAST_BYTE]


def is_whole_seal(found):
    """Tell whether the bytes are a whole seal."""
    if len(found) != SEAL_LENGTH or found[0] != FIRST_BYTE or found[-1] != LAST_BYTE:
        return False
    return max(found[1:-1]) <= HIGHEST_BYTE and check_of(found[1:-3]) == found[-3:-1]


def seal_at(disk, address):
    """Return the batch and the root pointer of the whole seal there, or None."""
    # A list would count a negative address from its end.
    if address < 0:
        return None
    found = disk.part(address, SEAL_LENGTH)
    if not is_whole_seal(found):
        return None
    return read_eight(found[1:9]), (read_eight(found[9:17]), read_eight(found[17:25]))


def last_seal(disk):
    """Return the address of the last whole seal."""
    for address in range(len(disk) - SEAL_LENGTH, -1, -1):
        if seal_at(disk, address) is not None:
            return address
    raise NotAStore("the file has no whole seal")


def make_ready(disk):
    """Let the file end with two equal seals; return what the last one tells."""
    address = last_seal(disk)
    batch, root = seal_at(disk, address)
    disk.cut(address + SEAL_LENGTH)
    # A cut may have taken the second copy, and damage may have changed the first.
    if not is_doubled(disk, address):
        disk.append(disk.part(address, SEAL_LENGTH))
    return batch, root


def is_doubled(disk, address):
    """Tell whether the bytes before the seal at the address are equal to it."""
    if address < SEAL_LENGTH:
        return False
    return disk.part(address - SEAL_LENGTH, SEAL_LENGTH) == disk.part(address, SEAL_LENGTH)
