"""Which records reads and deeds need, reckoned from the bytes of a file that is not damaged."""

from tessera.layouts import grids_of
from tessera.objects import ArrayObject, View, read_object
from tessera.paths import key_of, parent, range_in
from tessera.records import NOWHERE, read_record
from tessera.seals import seal_at
from tessera.views import deciding_piece, source_index

from tests.plain_store import picked_of
from tests.tools import node_at, nodes_of, way_down


class Needs:
    """The records that are needed, as sets of pointers."""

    def __init__(self, disk):
        self.disk = disk
        _, self.root = seal_at(disk, len(disk) - 28)
        self.nodes = nodes_of(disk, self.root)

    def pairs(self, root):
        """All pairs of a tree."""
        found = []
        for pointer, _, _ in nodes_of(self.disk, root):
            kind, pairs = node_at(self.disk, pointer)
            found += pairs if kind == 1 else []
        return dict(found)

    def thing(self, path):
        pointer = self.pairs(self.root).get(key_of(path))
        return None if pointer is None else read_object(read_record(self.disk, 4, pointer))

    def way(self, path):
        return set(way_down(self.disk, self.root, key_of(path)))

    def lookup(self, path):
        pointer = self.pairs(self.root).get(key_of(path))
        return self.way(path) | ({pointer} - {None})

    def between(self, low, high):
        """The nodes of the directory that can contain keys from `low` up to `high`."""
        return {
            pointer for pointer, least, end in self.nodes
            if (high is None or least < high) and (end is None or end > low)
        }

    def inside(self, path):
        return self.between(*range_in(path))

    def all_paths(self):
        return {pointer for pointer, _, _ in self.nodes}

    def chunk(self, array, grid):
        """The nodes of the index and the chunk."""
        if array.root == NOWHERE:
            return set()
        pointer = self.pairs(array.root).get(grid)
        return set(way_down(self.disk, array.root, grid)) | ({pointer} - {None})

    def chunks(self, array, selection):
        needed = set()
        for grid in grids_of(array.layout, array.shape, selection):
            needed |= self.chunk(array, grid)
        return needed

    def read(self, path, selection):
        thing = self.thing(path)
        needed = self.lookup(path)
        if isinstance(thing, ArrayObject):
            return needed | self.chunks(thing, selection)
        if isinstance(thing, View):
            for index in picked_of(thing.shape, selection):
                needed |= self.shown(thing, index)
        return needed

    def shown(self, view, index):
        """What the value of a view at an index needs."""
        at = deciding_piece(view, index)
        if at is None:
            return set()
        path = view.pieces[at][0]
        array, place = self.thing(path), source_index(view.pieces[at], index)
        needed = self.lookup(path)
        if isinstance(array, ArrayObject) and len(array.shape) == len(place):
            if all(0 <= number < size for number, size in zip(place, array.shape)):
                needed |= self.chunks(array, ("points", (place,)))
        return needed

    def chunk_pointer(self, path, grid):
        array = self.thing(path)
        nodes = set(way_down(self.disk, array.root, grid)) if array.root != NOWHERE else set()
        return self.lookup(path) | nodes

    def make(self, path):
        return self.way(path) | self.lookup(parent(path))

    def remove(self, path):
        return self.way(path) | self.inside(path)

    def carry(self, path, other):
        return self.remove(path) | self.make(other)

    def resize(self, path, low, cut):
        """What a resize needs that cuts chunks from the grid index `low` on, and these in part."""
        array = self.thing(path)
        needed = self.lookup(path)
        if low is not None:
            for pointer, _, end in nodes_of(self.disk, array.root):
                needed |= {pointer} if end is None or end > low else set()
        for grid in cut:
            needed |= self.chunk(array, grid)
        return needed
