"""Inspecting and compacting files (points 47 and 48)."""

from tessera.archives import Archive
from tessera.errors import Damaged
from tessera.objects import ArrayObject
from tessera.repairing import repaired
from tessera.scans import scan_chunk, scan_object, scan_tree
from tessera.seals import last_seal, seal_at


class Survey:
    """The records of a file that were visited."""

    def __init__(self, disk):
        self._archive = Archive(disk)
        # From the pointers to whether the records are damaged.
        self.visited = {}

    def visit_directory(self, root):
        """Visit the nodes of the directory and all that they lead to."""
        for _, pointer in self._visit_tree(root):
            if pointer not in self.visited:
                self._visit_object(pointer)

    def _visit_tree(self, root):
        """Visit the nodes of a tree, and return the pairs that were found."""
        pairs, nodes = scan_tree(self._archive, root)
        for pointer in nodes:
            self.visited[pointer] = nodes[pointer]
        return pairs

    def _visit_object(self, pointer):
        """Visit an object, and the index and chunks of an array."""
        thing = scan_object(self._archive, pointer)
        self.visited[pointer] = thing is None
        # Copies share their chunks, and may share the whole index.
        if isinstance(thing, ArrayObject) and thing.root not in self.visited:
            for _, below in self._visit_tree(thing.root):
                if below not in self.visited:
                    self.visited[below] = scan_chunk(self._archive, thing.layout, below) is None


def survey(disk):
    """Return a dict from the pointers of all records that are visited to whether they are damaged."""
    _, root = seal_at(disk, last_seal(disk))
    made = Survey(disk)
    made.visit_directory(root)
    return made.visited


def inspect(disk):
    """Return the ascending list of the pointers of the damaged records."""
    visited = survey(disk)
    return sorted([pointer for pointer in visited if visited[pointer]])


def live_pointers(disk):
    """Return the ascending list of the pointers of all records that are visited."""
    return sorted(survey(disk))


def is_sound(disk):
    """Tell whether no record is damaged."""
    return not inspect(disk)


def compacted(disk):
    """Return a new disk that holds the same store in one batch, and nothing else."""
    damaged = inspect(disk)
    if damaged:
        address, length = damaged[0]
        raise Damaged(address, length)
    # Repairing a sound file loses nothing.
    rewritten, _ = repaired(disk)
    return rewritten
