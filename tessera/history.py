"""Earlier batches, and the changes between two of them (points 52 to 54)."""

from tessera.archives import Archive
from tessera.directories import array_at, array_or_view_at, check_there, object_at, rows_between, view_at
from tessera.errors import InvalidPath, UnknownBatch
from tessera.paths import is_path
from tessera.reading import names_in_group, paths_of_all, pointer_of_chunk, read_values, word_for
from tessera.seals import FIRST_BYTE, seal_at
from tessera.trees import entries


class Look:
    """The store as a batch left it, for reading only."""

    def __init__(self, disk, number, root):
        self._archive = Archive(disk)
        self._number = number
        self._root = root

    @property
    def batch(self):
        """The number of the batch."""
        return self._number

    def read(self, path, selection):
        """Return the values at the indexes that the selection picks of the array or view."""
        return read_values(self._archive, self._root, path, selection)

    def attributes_of(self, path):
        """Return the pairs of a name and a value, in ascending order of the names."""
        return list(object_at(self._archive, self._root, path).attributes)

    def kind_at(self, path):
        """Return "group", "array" or "view"."""
        return word_for(object_at(self._archive, self._root, path))

    def shape_of(self, path):
        """Return the shape of the array or view at the path."""
        return array_or_view_at(self._archive, self._root, path).shape

    def layout_of(self, path):
        """Return the layout of the array at the path."""
        return array_at(self._archive, self._root, path).layout

    def pieces_of(self, path):
        """Return the tuple of the pieces of the view at the path."""
        return view_at(self._archive, self._root, path).pieces

    def names_in(self, path):
        """Return the names directly in the group at the path, in ascending order."""
        return names_in_group(self._archive, self._root, path)

    def paths(self):
        """Return all paths, in ascending order of their keys."""
        return paths_of_all(self._archive, self._root)

    def chunk_pointer(self, path, grid):
        """Return the pointer of the record of a chunk of the array, or None."""
        return pointer_of_chunk(self._archive, self._root, path, grid)


def sealed_roots(disk):
    """Return a dict from the numbers of the whole seals to their root pointers."""
    roots = {}
    for address, byte in enumerate(disk.part(0, len(disk))):
        found = seal_at(disk, address) if byte == FIRST_BYTE else None
        if found is not None:
            number, root = found
            roots[number] = root
    return roots


def batches(disk):
    """Return the ascending list of the numbers of the whole seals."""
    return sorted(sealed_roots(disk))


def root_of(disk, batch):
    """Return the root pointer of the directory of the batch."""
    roots = sealed_roots(disk)
    if batch not in roots:
        raise UnknownBatch(batch)
    return roots[batch]


def look_at(disk, batch):
    """Return a look at the batch with this number."""
    return Look(disk, batch, root_of(disk, batch))


def changed_keys(before, after):
    """Return, in ascending order, the keys that do not have the same pointer in both dicts."""
    return [key for key in sorted(set(before) | set(after)) if before.get(key) != after.get(key)]


def changed_paths(disk, first, second):
    """Return the pairs of a word for the change and a path, in ascending order of the paths."""
    roots = [root_of(disk, first), root_of(disk, second)]
    archive = Archive(disk)
    before, after = [dict(rows_between(archive, root, (), None)) for root in roots]
    return [(change_word(before, after, path), path) for path in changed_keys(before, after)]


def change_word(before, after, path):
    """Return the word for what happened to a path that does not have the same pointer."""
    if path not in before:
        return "added"
    if path not in after:
        return "removed"
    return "changed"


def changed_chunks(disk, first, second, path):
    """Return the ascending list of the grid indexes of the changed chunks of the array."""
    roots = [root_of(disk, first), root_of(disk, second)]
    if not is_path(path):
        raise InvalidPath(path)
    archive = Archive(disk)
    for root in roots:
        check_there(archive, root, path)
    arrays = [array_at(archive, root, path) for root in roots]
    before, after = [index_table(archive, array.root) for array in arrays]
    return changed_keys(before, after)


def index_table(archive, root):
    """Return a dict from the grid indexes of an index to the pointers of their chunks."""
    return {grid: pointer for grid, pointer in entries(archive, root)}
