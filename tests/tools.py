"""What several tests need: trees as tables, damage, and random but repeatable choices."""

from tessera.disks import Disk
from tessera.errors import Damaged, TesseraError
from tessera.logs import Log
from tessera.numbers import read_integers, read_number
from tessera.records import NOWHERE
from tessera.selections import whole


def pointer_of(error):
    return error.address, error.length


def outcome(action):
    """What the action gives, or the pointer that it calls damaged, or its other error."""
    try:
        return "gives", action()
    except Damaged as error:
        return "damaged", pointer_of(error)
    except TesseraError as error:
        return "raises", error.__class__


def damaged_disk(disk, pointer, place=0):
    """A copy of the disk in which one byte of the record is another one."""
    changed = disk.copied()
    address = pointer[0] + place
    changed.change(address, (disk.part(address, 1)[0] + 1) % 250)
    return changed


def node_at(disk, pointer):
    """The kind and the pairs of a node, read without the program's own reading of nodes."""
    record = disk.part(*pointer)
    content = record[1:-2]
    count, at = read_number(content, 0)
    pairs = []
    for _ in range(count):
        key, at = read_integers(content, at)
        address, at = read_number(content, at)
        length, at = read_number(content, at)
        pairs.append((tuple(key), (address, length)))
    assert at == len(content)
    return record[0], pairs


def nodes_of(disk, root):
    """The pointers of all nodes of a tree, the root first, each with its bounds.

    The keys in a node are at least the first bound, and less than the second one.
    """
    found = []

    def visit(pointer, low, high):
        found.append((pointer, low, high))
        kind, pairs = node_at(disk, pointer)
        if kind == 2:
            ends = [key for key, _ in pairs[1:]] + [high]
            for (key, below), end in zip(pairs, ends):
                visit(below, key, end)

    if root != NOWHERE:
        visit(root, (), None)
    return found


def way_down(disk, root, key):
    """The pointers of the nodes that looking up a key needs, one of each level."""
    way = [root]
    kind, pairs = node_at(disk, root)
    while kind == 2:
        fitting = [pointer for low, pointer in pairs if low <= key]
        way.append(fitting[-1] if fitting else pairs[0][1])
        kind, pairs = node_at(disk, way[-1])
    return way


def sealed_log(log, root):
    """A log on a disk that holds all records of another log."""
    disk = log.disk
    log.seal(root)
    return Log(disk)


def new_log():
    """A log whose disk is not empty, so that no record has the address 0."""
    disk = Disk([])
    Log(disk).seal(NOWHERE)
    return Log(disk)


def error_of(action):
    """The class and the fields of the error that the action raises."""
    try:
        action()
    except TesseraError as error:
        return error.__class__, vars(error)
    return None


def facts_of(store, path):
    """Everything that can be read of a path."""
    kind = store.kind_at(path)
    facts = [kind, store.attributes_of(path)]
    if kind == "group":
        return facts + [store.names_in(path)]
    facts += [store.shape_of(path), store.read(path, whole(store.shape_of(path)))]
    if kind == "view":
        return facts + [store.pieces_of(path)]
    layout = store.layout_of(path)
    return facts + [(layout.kind, layout.chunk_shape, layout.fill, layout.filters)]


def snapshot(store):
    """Everything that can be read of a store."""
    return [(path, facts_of(store, path)) for path in store.paths()]
