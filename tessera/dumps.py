"""Dumps: texts that describe whole stores (point 49)."""

from tessera.objects import ArrayObject, Group
from tessera.words import COLON, SPACE, word_of


def dump(store):
    """Return the text that describes the store."""
    return "\n".join([line for path in store.paths() for line in lines_of(store, path)])


def lines_of(store, path):
    """Return the lines of one path."""
    thing = store.object_of(path)
    if isinstance(thing, Group):
        return [row("group", [word_of(path)])] + attribute_lines(thing)
    if isinstance(thing, ArrayObject):
        return array_lines(path, thing) + [chunk_line(grid, values) for grid, values in store.chunks_of(path)]
    return view_lines(path, thing)


def row(word, things):
    """Return a line of this word and the things behind it."""
    return SPACE.join([word] + [str(thing) for thing in things])


def attribute_lines(thing):
    """Return the lines of the attributes of an object."""
    lines = []
    for name, value in thing.attributes:
        if isinstance(value, str):
            lines.append(row("text", [name, value]))
        else:
            lines.append(row("list", [name] + list(value)))
    return lines


def array_lines(path, array):
    """Return the lines of an array without those of its chunks."""
    layout = array.layout
    lines = [row("array", [path, layout.kind])] + attribute_lines(array)
    lines.extend([row("shape", array.shape), row("fill", [layout.fill])])
    lines.extend([row("chunks", layout.chunk_shape), row("filters", layout.filters)])
    return lines


def chunk_line(grid, values):
    """Return the line of a chunk."""
    return row("chunk", list(grid) + [COLON] + values)


def view_lines(path, view):
    """Return the lines of a view."""
    lines = [row("view", [path, view.kind])] + attribute_lines(view)
    lines.extend([row("shape", view.shape), row("fill", [view.fill])])
    for other, source, target, counts in view.pieces:
        lines.append(row("piece", [other] + list(source + target + counts)))
    return lines
