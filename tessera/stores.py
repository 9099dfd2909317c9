"""Stores: deeds and questions on a directory (points 36 to 43)."""

from tessera.deeds import (
    check_array_parts, check_named, check_pieces, check_place, check_view_parts, copied, moved, with_object,
    without_path,
)
from tessera.directories import array_at, array_or_view_at, object_at, view_at
from tessera.errors import InvalidPart, InvalidShape, NoAttribute
from tessera.layouts import Layout
from tessera.objects import MOST_ATTRIBUTES, ArrayObject, Group, View, is_attribute, with_attributes
from tessera.reading import (
    chunks_in_array, names_in_group, paths_of_all, pointer_of_chunk, read_values, word_for,
)
from tessera.records import NOWHERE
from tessera.shapes import is_shape
from tessera.slabs import resize_slabs, write_slab


class Store:
    """A directory whose changes are collected into batches."""

    def __init__(self, log, root):
        self._log = log
        self._root = root
        self._sealed_root = root

    @property
    def batch(self):
        """The number of the last sealed batch."""
        return self._log.batch

    def make_group(self, path):
        """Make a group at the path."""
        check_named(path)
        check_place(self._log, self._root, path)
        self._put(path, Group([]))

    def make_array(self, path, kind, shape, *, chunks, fill=0, filters=()):
        """Make an array at the path; all its values are the fill value."""
        check_named(path)
        check_place(self._log, self._root, path)
        check_array_parts(kind, shape, chunks, fill, filters)
        self._put(path, ArrayObject([], shape, Layout(kind, chunks, fill, filters), NOWHERE))

    def make_view(self, path, kind, shape, *, pieces, fill=0):
        """Make a view at the path."""
        check_named(path)
        check_place(self._log, self._root, path)
        check_view_parts(kind, shape, pieces, fill)
        self._put(path, View([], kind, shape, fill, pieces))

    def add_piece(self, path, piece):
        """Make the view at the path anew with one more piece at the end."""
        view = view_at(self._log, self._root, path)
        pieces = list(view.pieces) + [piece]
        check_pieces(pieces, view.shape)
        self._put(path, View(view.attributes, view.kind, view.shape, view.fill, pieces))

    def remove(self, path):
        """Remove the object at the path and everything that lies in the path."""
        self._root = without_path(self._log, self._root, path)

    def move(self, path, other):
        """Move the object at the path, and everything that lies in it, to the other path."""
        self._root = moved(self._log, self._root, path, other)

    def duplicate(self, path, other):
        """Copy the object at the path, and everything that lies in it, to the other path."""
        self._root = copied(self._log, self._root, path, other)

    def set_attribute(self, path, name, value):
        """Give an attribute of the object at the path this value."""
        thing = object_at(self._log, self._root, path)
        attributes = [pair for pair in thing.attributes if pair[0] != name] + [(name, value)]
        if not is_attribute(name, value):
            raise InvalidPart("the name or the value of the attribute is not valid")
        if len(attributes) > MOST_ATTRIBUTES:
            raise InvalidPart("there would be too many attributes")
        self._put(path, with_attributes(thing, attributes))

    def remove_attribute(self, path, name):
        """Remove an attribute of the object at the path."""
        thing = object_at(self._log, self._root, path)
        attributes = [pair for pair in thing.attributes if pair[0] != name]
        if len(attributes) == len(thing.attributes):
            raise NoAttribute(name)
        self._put(path, with_attributes(thing, attributes))

    def attributes_of(self, path):
        """Return the pairs of a name and a value, in ascending order of the names."""
        return list(object_at(self._log, self._root, path).attributes)

    def write(self, path, selection, values):
        """Write the values to the indexes that the selection picks of the array."""
        thing = array_at(self._log, self._root, path)
        root = write_slab(self._log, thing.layout, thing.root, thing.shape, selection, values)
        self._put(path, ArrayObject(thing.attributes, thing.shape, thing.layout, root))

    def resize(self, path, shape):
        """Resize the array at the path."""
        thing = array_at(self._log, self._root, path)
        if not is_shape(shape) or len(shape) != len(thing.shape):
            raise InvalidShape("the array cannot be resized to this shape")
        root = resize_slabs(self._log, thing.layout, thing.root, thing.shape, shape)
        self._put(path, ArrayObject(thing.attributes, shape, thing.layout, root))

    def read(self, path, selection):
        """Return the values at the indexes that the selection picks of the array or view."""
        return read_values(self._log, self._root, path, selection)

    def kind_at(self, path):
        """Return "group", "array" or "view"."""
        return word_for(object_at(self._log, self._root, path))

    def shape_of(self, path):
        """Return the shape of the array or view at the path."""
        return array_or_view_at(self._log, self._root, path).shape

    def layout_of(self, path):
        """Return the layout of the array at the path."""
        return array_at(self._log, self._root, path).layout

    def pieces_of(self, path):
        """Return the tuple of the pieces of the view at the path."""
        return view_at(self._log, self._root, path).pieces

    def names_in(self, path):
        """Return the names directly in the group at the path, in ascending order."""
        return names_in_group(self._log, self._root, path)

    def paths(self):
        """Return all paths, in ascending order of their keys."""
        return paths_of_all(self._log, self._root)

    def chunk_pointer(self, path, grid):
        """Return the pointer of the record of a chunk of the array, or None."""
        return pointer_of_chunk(self._log, self._root, path, grid)

    def object_of(self, path):
        """Return the Group, ArrayObject or View at the path."""
        return object_at(self._log, self._root, path)

    def chunks_of(self, path):
        """Return the pairs of a grid index and the values of each chunk of the array with a record."""
        return chunks_in_array(self._log, self._root, path)

    def commit(self):
        """Seal the batch."""
        self._log.seal(self._root)
        self._sealed_root = self._root

    def discard(self):
        """Go back to the directory of the last seal."""
        self._log.drop()
        self._root = self._sealed_root

    def _put(self, path, thing):
        """Let the directory have this object at the path."""
        self._root = with_object(self._log, self._root, path, thing)
