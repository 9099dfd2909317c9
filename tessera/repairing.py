"""Repairing: a new file with all that can still be read (point 55)."""

from tessera.archives import Archive
from tessera.disks import Disk
from tessera.logs import Log
from tessera.objects import ArrayObject, Group, write_object
from tessera.paths import key_of, parent, path_of
from tessera.records import CHUNK, OBJECT
from tessera.scans import scan_chunk, scan_object, scan_tree
from tessera.seals import last_seal, seal_at
from tessera.trees import put_tree


class Repair:
    """A new file that is being written, and the losses so far."""

    def __init__(self, archive):
        self.disk = Disk([])
        self.losses = []
        self._archive = archive
        self._log = Log(self.disk)
        self._rows = []
        self._groups = {}
        self._carried = {}

    def bring(self, path, thing):
        """Write the object at the path, or None where it is damaged, unless the path is lost."""
        if thing is None or parent(path) not in self._groups:
            self.losses.append(("path", path))
        elif isinstance(thing, ArrayObject):
            self._put(path, self._with_chunks(path, thing))
        else:
            self._put(path, thing)

    def bring_root(self, things):
        """Write the root group of the directory in which these objects were found."""
        thing = things.get("", Group([]))
        if not isinstance(thing, Group):
            self.losses.append(("path", ""))
            thing = Group([])
        self._put("", thing)

    def seal(self):
        """Write the directory and seal the only batch."""
        self._log.seal(put_tree(self._log, self._rows))

    def _put(self, path, thing):
        """Write the object for the path; all objects come in ascending order of their paths."""
        if isinstance(thing, Group):
            self._groups[path] = True
        self._rows.append((key_of(path), self._log.put(OBJECT, write_object(thing))))

    def _with_chunks(self, path, array):
        """Write the chunks of the array and a new index; return the array that has them."""
        pairs, nodes = scan_tree(self._archive, array.root)
        if any(list(nodes.values())):
            self.losses.append(("nodes", path))
        rows = []
        for grid, pointer in pairs:
            if scan_chunk(self._archive, array.layout, pointer) is None:
                self.losses.append(("chunk", path, grid))
            else:
                rows.append((grid, self._carry(pointer)))
        return ArrayObject(array.attributes, array.shape, array.layout, put_tree(self._log, rows))

    def _carry(self, pointer):
        """Return the new pointer of a chunk. What copies share is written once."""
        if pointer not in self._carried:
            self._carried[pointer] = self._log.put(CHUNK, self._archive.fetch(CHUNK, pointer))
        return self._carried[pointer]


def repaired(disk):
    """Return a new disk with what can be read of the last batch, and the list of the losses."""
    _, root = seal_at(disk, last_seal(disk))
    archive = Archive(disk)
    pairs, nodes = scan_tree(archive, root)
    things = {path_of(key): scan_object(archive, pointer) for key, pointer in pairs}
    repair = Repair(archive)
    repair.bring_root(things)
    if any(list(nodes.values())):
        repair.losses.append(("nodes", ""))
    # The paths come in ascending order, and so do the losses. A parent stands
    # before what lies in it.
    for path in things:
        if path != "":
            repair.bring(path, things[path])
    repair.seal()
    return repair.disk, repair.losses
