"""Expressions over arrays, and how they are written (points 56 and 59)."""

from tessera.errors import InvalidExpression
from tessera.objects import BEYOND_INTEGERS
from tessera.paths import is_path
from tessera.words import SPACE, BadWord, integer_in, integers_in, is_integer_word, require

DEEPEST = 12
PATH_SIGN = "@"
BEGIN = "("
END = ")"

# How many parts the expressions have that consist of a name and parts.
PART_COUNTS = {"add": 2, "sub": 2, "mul": 2, "min": 2, "max": 2, "less": 2, "pick": 3}


def parts_of(expression):
    """Return the expressions that are parts of the expression."""
    if expression[0] in ("path", "number"):
        return []
    if expression[0] == "shift":
        return [expression[1]]
    return list(expression[1:])


def depth(expression):
    """Return the depth of the expression."""
    return 1 + max([depth(part) for part in parts_of(expression)], default=0)


def paths_of(expression):
    """Return the ascending list of the paths in the expression, each once."""
    return sorted(set(all_paths(expression)))


def all_paths(expression):
    """Return the paths in the expression as often as they occur."""
    if expression[0] == "path":
        return [expression[1]]
    return [path for part in parts_of(expression) for path in all_paths(part)]


def is_expression(expression):
    """Tell whether the tuple is an expression."""
    return is_formed(expression, DEEPEST)


def is_formed(expression, levels):
    """Tell whether this is an expression of at most so many levels."""
    if levels == 0 or not isinstance(expression, tuple) or len(expression) < 2:
        return False
    name, first = expression[0], expression[1]
    if name in PART_COUNTS:
        parts = expression[1:]
        return len(parts) == PART_COUNTS[name] and all([is_formed(part, levels - 1) for part in parts])
    if name == "shift":
        return len(expression) == 3 and are_offsets(expression[2]) and is_formed(first, levels - 1)
    if len(expression) != 2:
        return False
    if name == "path":
        return isinstance(first, str) and is_path(first)
    return name == "number" and isinstance(first, int) and abs(first) < BEYOND_INTEGERS


def are_offsets(offsets):
    """Tell whether this is a tuple of integers."""
    return isinstance(offsets, tuple) and all([isinstance(offset, int) for offset in offsets])


def format_expression(expression):
    """Return the text of the expression."""
    return SPACE.join(words_of(expression))


def words_of(expression):
    """Return the words of the text of the expression."""
    name = expression[0]
    if name == "path":
        return [PATH_SIGN + expression[1]]
    if name == "number":
        return [str(expression[1])]
    words = [BEGIN, name]
    for part in parts_of(expression):
        words.extend(words_of(part))
    if name == "shift":
        words.extend([str(offset) for offset in expression[2]])
    return words + [END]


def parse_expression(text):
    """Return the expression with this text."""
    words = text.split(SPACE)
    try:
        expression, behind = expression_at(words, 0, DEEPEST)
        require(behind == len(words))
    except BadWord:
        raise InvalidExpression("the text is not that of an expression") from None
    return expression


def word_at(words, at):
    """Return the word at the place."""
    require(at < len(words))
    return words[at]


def expression_at(words, at, levels):
    """Return the expression of at most so many levels that begins at the place, and the place behind it."""
    # Without the levels, a long text could be gone into too deeply.
    require(levels > 0)
    word = word_at(words, at)
    if word == BEGIN:
        return composed_at(words, at + 1, levels - 1)
    if word.startswith(PATH_SIGN):
        path = word.removeprefix(PATH_SIGN)
        require(is_path(path))
        return ("path", path), at + 1
    return ("number", integer_in(word)), at + 1


def composed_at(words, at, levels):
    """Return the expression whose name stands at the place, and the place behind it.

    Its parts have at most so many levels.
    """
    name = word_at(words, at)
    require(name == "shift" or name in PART_COUNTS)
    parts, behind = parts_at(words, at + 1, levels, PART_COUNTS.get(name, 1))
    if name == "shift":
        offsets, behind = offsets_at(words, behind)
        parts.append(offsets)
    require(word_at(words, behind) == END)
    return tuple([name] + parts), behind + 1


def parts_at(words, at, levels, count):
    """Return the list of this many expressions that begin at the place, and the place behind them."""
    parts = []
    behind = at
    for _ in range(count):
        part, behind = expression_at(words, behind, levels)
        parts.append(part)
    return parts, behind


def offsets_at(words, at):
    """Return the tuple of the integers that begin at the place, and the place behind them."""
    behind = at
    while behind < len(words) and is_integer_word(words[behind]):
        behind = behind + 1
    return integers_in(words[at:behind]), behind
