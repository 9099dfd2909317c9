"""Drafts: the objects of a dump, made of its lines one after another (points 49 and 50).

A line that no dump has behind the lines before it is refused with BadWord.
"""

from tessera.filters import is_chain
from tessera.kinds import KINDS, in_range
from tessera.layouts import Layout, is_chunk_shape
from tessera.objects import are_attributes, are_pieces
from tessera.paths import is_path, parent
from tessera.shapes import element_count, is_shape
from tessera.slabs import filled_outside, is_outside
from tessera.words import SPACE, integer_in, integers_in, lists_in, require

HEADERS = ("group", "array", "view")
ROOT_LINE = "group /"


class Draft:
    """An object, as far as the lines tell it."""

    def __init__(self, word, path, kind):
        self.word = word
        self.path = path
        self.kind = kind
        self.attributes = []
        self.shape = None
        self.fill = None
        self.chunk_shape = None
        self.layout = None
        self.chunks = []
        self.pieces = []


def words_due(draft):
    """Return the first words that the next line of the object may have."""
    if draft.word == "group":
        return ["text", "list"]
    if draft.shape is None:
        return ["text", "list", "shape"]
    if draft.fill is None:
        return ["fill"]
    if draft.word == "view":
        return ["piece"]
    if draft.chunk_shape is None:
        return ["chunks"]
    if draft.layout is None:
        return ["filters"]
    return ["chunk"]


def is_complete(draft):
    """Tell whether the object needs no further line."""
    if draft.word == "group":
        return True
    return draft.fill is not None and (draft.word == "view" or draft.layout is not None)


def rest_of(line):
    """Return the words behind the first one."""
    return line.split(SPACE)[1:]


def take_text(draft, line):
    """Take an attribute that is a text, which may contain spaces."""
    words = line.split(SPACE, 2)
    require(len(words) == 3)
    add_attribute(draft, words[1], words[2])


def take_list(draft, line):
    """Take an attribute that is a list of integers."""
    words = rest_of(line)
    require(len(words) > 0)
    add_attribute(draft, words[0], integers_in(words[1:]))


def add_attribute(draft, name, value):
    """Add an attribute behind the others."""
    attributes = draft.attributes + [(name, value)]
    require(are_attributes(attributes))
    draft.attributes = attributes


def take_shape(draft, line):
    """Take the shape."""
    shape = integers_in(rest_of(line))
    require(is_shape(shape))
    draft.shape = shape


def take_fill(draft, line):
    """Take the fill value."""
    words = rest_of(line)
    require(len(words) == 1)
    fill = integer_in(words[0])
    require(in_range(draft.kind, fill))
    draft.fill = fill


def take_chunk_shape(draft, line):
    """Take the chunk shape of an array."""
    chunk_shape = integers_in(rest_of(line))
    require(is_chunk_shape(chunk_shape, len(draft.shape)))
    draft.chunk_shape = chunk_shape


def take_filters(draft, line):
    """Take the chain of filters of an array; then its layout is known."""
    filters = tuple(rest_of(line))
    require(is_chain(filters))
    draft.layout = Layout(draft.kind, draft.chunk_shape, draft.fill, filters)


def take_chunk(draft, line):
    """Take a chunk of an array."""
    grid_words, value_words = lists_in(rest_of(line), 2)
    grid, values = integers_in(grid_words), list(integers_in(value_words))
    require(is_grid(draft, grid) and (not draft.chunks or draft.chunks[-1][0] < grid))
    require(len(values) == element_count(draft.chunk_shape))
    require(all([in_range(draft.kind, value) for value in values]))
    require(filled_outside(draft.layout, values, grid, draft.shape) == values)
    draft.chunks.append((grid, values))


def is_grid(draft, grid):
    """Tell whether the array has a chunk with this grid index."""
    if len(grid) != len(draft.shape) or any([place < 0 for place in grid]):
        return False
    return not is_outside(draft.chunk_shape, grid, draft.shape)


def take_piece(draft, line):
    """Take a piece of a view."""
    words = rest_of(line)
    many = len(draft.shape)
    require(len(words) == 1 + 3 * many)
    numbers = integers_in(words[1:])
    pieces = draft.pieces + [(words[0], numbers[:many], numbers[many:2 * many], numbers[2 * many:])]
    require(are_pieces(pieces, draft.shape))
    draft.pieces = pieces


TAKERS = {
    "text": take_text,
    "list": take_list,
    "shape": take_shape,
    "fill": take_fill,
    "chunks": take_chunk_shape,
    "filters": take_filters,
    "chunk": take_chunk,
    "piece": take_piece,
}


class Drafts:
    """The objects of a dump, in their order."""

    def __init__(self):
        self.made = []
        # The paths of the groups among them.
        self._groups = {}

    def are_complete(self):
        """Tell whether a dump may end here."""
        return is_complete(self.made[-1])

    def take(self, line):
        """Take the next line."""
        word = line.partition(SPACE)[0]
        if not self.made:
            require(line == ROOT_LINE)
            self._add(word, "", None)
        elif word in HEADERS:
            self._begin(word, rest_of(line))
        else:
            require(word in words_due(self.made[-1]))
            take_line = TAKERS[word]
            take_line(self.made[-1], line)

    def _begin(self, word, words):
        """Begin the object whose header has these words behind the first one."""
        require(self.are_complete() and len(words) == (1 if word == "group" else 2))
        path = words[0]
        require(is_path(path) and path > self.made[-1].path and parent(path) in self._groups)
        kind = None
        if word != "group":
            kind = words[1]
            require(kind in KINDS)
        self._add(word, path, kind)

    def _add(self, word, path, kind):
        """Add an object of which only the header is known."""
        self.made.append(Draft(word, path, kind))
        if word == "group":
            self._groups[path] = True
