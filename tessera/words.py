"""Words of texts: what scripts, dumps and expressions have in common (points 49, 59 and 60)."""

from tessera.errors import TesseraError

MOST_DIGITS = 30
SPACE = " "
COLON = ":"
ROOT_WORD = "/"


class BadWord(TesseraError):
    """A text does not have the form that is due. Who reads it tells this in its own way."""


def require(holds):
    """Refuse the text unless this holds."""
    if not holds:
        raise BadWord("the text does not have the form that is due")


def is_integer_word(word):
    """Tell whether some integer is written like this."""
    digits = word.removeprefix("-")
    if digits.startswith("0"):
        return word == "0"
    return digits.isdigit()


def integer_in(word):
    """Return the integer of at most thirty digits that is written like this."""
    require(is_integer_word(word) and len(word.removeprefix("-")) <= MOST_DIGITS)
    return int(word)


def integers_in(words):
    """Return the tuple of the integers that are written in these words."""
    return tuple([integer_in(word) for word in words])


def lists_in(words, count):
    """Return this many lists of words, between which colons stand."""
    lists = [[]]
    for word in words:
        if word == COLON:
            lists.append([])
        else:
            lists[-1].append(word)
    require(len(lists) == count)
    return lists


def path_in(word):
    """Return the path that is written as this word, which need not be valid."""
    return "" if word == ROOT_WORD else word


def word_of(path):
    """Return how the path is written."""
    return path if path else ROOT_WORD
