"""Names, paths and their keys (points 32 and 33)."""

from tessera.numbers import CHARACTERS, LOWEST_CODE

LONGEST_NAME = 12
MOST_NAMES = 6
NAME_CHARACTERS = "abcdefghijklmnopqrstuvwxyz0123456789"
SLASH = "/"
SLASH_CODE = 47
# The characters of paths are the slash and those of names, so no path has a
# character between the slash and this digit.
ZERO_CODE = 48


def is_name(name):
    """Tell whether the string is a name."""
    if not 1 <= len(name) <= LONGEST_NAME:
        return False
    return all([character in NAME_CHARACTERS for character in name])


def is_path(path):
    """Tell whether the string is a path."""
    if path == "":
        return True
    names = path.split(SLASH)
    return len(names) <= MOST_NAMES and all([is_name(name) for name in names])


def parent(path):
    """Return the path without its last name."""
    return path.rpartition(SLASH)[0]


def lies_in(path, other):
    """Tell whether the path lies in the other one."""
    if other == "":
        return path != ""
    return path.startswith(other + SLASH)


def key_of(path):
    """Return the key of the path."""
    return tuple([ord(character) for character in path])


def path_of(key):
    """Return the path with this key."""
    return "".join([CHARACTERS[code - LOWEST_CODE] for code in key])


def range_in(path):
    """Return the keys between which the keys of all paths stand that lie in the path."""
    if path == "":
        return (ZERO_CODE,), None
    key = key_of(path)
    return key + (SLASH_CODE,), key + (ZERO_CODE,)
