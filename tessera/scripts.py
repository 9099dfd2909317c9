"""Scripts: deeds and questions as lines of a text (points 60 and 61)."""

from tessera.errors import TesseraError
from tessera.words import COLON, SPACE, BadWord, integer_in, integers_in, lists_in, path_in, require

DONE = "ok"
BAD_LINE = "bad line"
NO_DIMENSIONS = "*"

# How many colons are words of the lines that have some.
COLON_COUNTS = {"array": 2, "view": 1, "piece": 2}


def ranges_in(word):
    """Return the ranges of the box that is written as this word."""
    if word == NO_DIMENSIONS:
        return ()
    ranges = [integers_in(part.split(COLON)) for part in word.split(",")]
    require(all([len(numbers) == 3 for numbers in ranges]))
    return tuple(ranges)


def run_group(store, words):
    """Make a group."""
    require(len(words) == 1)
    store.make_group(path_in(words[0]))
    return DONE


def run_array(store, words):
    """Make an array."""
    sizes, chunk_sizes, more = lists_in(words[2:], 3)
    require(len(more) >= 1)
    shape, chunks, fill = integers_in(sizes), integers_in(chunk_sizes), integer_in(more[0])
    store.make_array(path_in(words[0]), words[1], shape, chunks=chunks, fill=fill, filters=tuple(more[1:]))
    return DONE


def run_view(store, words):
    """Make a view without pieces."""
    sizes, fills = lists_in(words[2:], 2)
    require(len(fills) == 1)
    shape, fill = integers_in(sizes), integer_in(fills[0])
    store.make_view(path_in(words[0]), words[1], shape, pieces=[], fill=fill)
    return DONE


def run_piece(store, words):
    """Make a view anew with one more piece."""
    source, target, counts = [integers_in(numbers) for numbers in lists_in(words[2:], 3)]
    store.add_piece(path_in(words[0]), (path_in(words[1]), source, target, counts))
    return DONE


def run_remove(store, words):
    """Remove what is at a path."""
    require(len(words) == 1)
    store.remove(path_in(words[0]))
    return DONE


def run_move(store, words):
    """Move what is at a path to another one."""
    require(len(words) == 2)
    store.move(path_in(words[0]), path_in(words[1]))
    return DONE


def run_copy(store, words):
    """Copy what is at a path to another one."""
    require(len(words) == 2)
    store.duplicate(path_in(words[0]), path_in(words[1]))
    return DONE


def run_text(store, line):
    """Set an attribute to a text, which may contain spaces and be empty."""
    words = line.split(SPACE, 3)
    require(len(words) == 4)
    require(all([word not in ("", COLON) for word in words[1:3]]))
    store.set_attribute(path_in(words[1]), words[2], words[3])
    return DONE


def run_list(store, words):
    """Set an attribute to a list of integers."""
    require(len(words) >= 2)
    store.set_attribute(path_in(words[0]), words[1], integers_in(words[2:]))
    return DONE


def run_forget(store, words):
    """Remove an attribute."""
    require(len(words) == 2)
    store.remove_attribute(path_in(words[0]), words[1])
    return DONE


def run_write(store, words):
    """Write integers to an array."""
    require(len(words) >= 2)
    ranges, numbers = ranges_in(words[1]), integers_in(words[2:])
    store.write(path_in(words[0]), ("box", ranges), list(numbers))
    return DONE


def run_resize(store, words):
    """Resize an array."""
    require(len(words) >= 1)
    store.resize(path_in(words[0]), integers_in(words[1:]))
    return DONE


def run_commit(store, words):
    """Seal the batch."""
    require(len(words) == 0)
    store.commit()
    return DONE


def run_discard(store, words):
    """Go back to the last seal."""
    require(len(words) == 0)
    store.discard()
    return DONE


def run_read(store, words):
    """Reply with the values that are picked."""
    require(len(words) == 2)
    values = store.read(path_in(words[0]), ("box", ranges_in(words[1])))
    return " ".join([str(value) for value in values])


def run_names(store, words):
    """Reply with the names in a group."""
    require(len(words) == 1)
    return " ".join(store.names_in(path_in(words[0])))


# A line of the word `text` is not among them, because its value is no list of words.
ACTIONS = {
    "group": run_group,
    "array": run_array,
    "view": run_view,
    "piece": run_piece,
    "remove": run_remove,
    "move": run_move,
    "copy": run_copy,
    "list": run_list,
    "forget": run_forget,
    "write": run_write,
    "resize": run_resize,
    "commit": run_commit,
    "discard": run_discard,
    "read": run_read,
    "names": run_names,
}


def reply_to(store, line):
    """Do what the line asks for, and return the reply; it may be refused."""
    words = line.split(SPACE)
    if words[0] == "text":
        return run_text(store, line)
    require("" not in words and words[0] in ACTIONS)
    require(words.count(COLON) == COLON_COUNTS.get(words[0], 0))
    action = ACTIONS[words[0]]
    return action(store, words[1:])


def run_line(store, line):
    """Do what the line asks for, and return the reply."""
    if line == "":
        return ""
    try:
        return reply_to(store, line)
    except BadWord:
        return BAD_LINE
    except TesseraError as error:
        return error.__class__.__name__


def run_script(store, text):
    """Run the lines of the text in order, and return the list of the replies."""
    return [run_line(store, line) for line in text.split("\n")]
