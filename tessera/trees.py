"""Trees: ordered tables from keys to pointers (points 24 to 27)."""

from tessera.errors import Damaged, Unreadable
from tessera.numbers import read_integers, read_list, read_number, write_integers, write_number
from tessera.records import INNER, LEAF, NOWHERE

MOST_PAIRS = 8
FIRST_OF_TWO = 5


def find(log, root, key):
    """Return the pointer of the key, or None."""
    if root == NOWHERE:
        return None
    _, pairs = way_to(log, root, key)
    for other, pointer in pairs:
        if other == key:
            return pointer
    return None


def put(log, root, key, pointer):
    """Return the root of the tree in which the key has this pointer."""
    if root == NOWHERE:
        return put_nodes(log, LEAF, [(key, pointer)])[0][1]
    way, pairs = way_to(log, root, key)
    made = put_nodes(log, LEAF, with_pair(pairs, key, pointer))
    for above, at in reversed(way):
        made = put_nodes(log, INNER, above[:at] + made + above[at + 1:])
    if len(made) > 1:
        made = put_nodes(log, INNER, made)
    return made[0][1]


def put_tree(log, pairs):
    """Return the root of a new tree with these pairs, which are ascending.

    Other than by putting one key after another, each node is put once.
    """
    if not pairs:
        return NOWHERE
    level = put_level(log, LEAF, pairs)
    while len(level) > 1:
        level = put_level(log, INNER, level)
    return level[0][1]


def put_level(log, kind, pairs):
    """Put as many nodes as these pairs need; return their pairs above."""
    parts = [pairs[at:at + MOST_PAIRS] for at in range(0, len(pairs), MOST_PAIRS)]
    return [(part[0][0], log.put(kind, write_node(part))) for part in parts]


def remove(log, root, key):
    """Return the root of the tree without the key, or the old one if it is not there."""
    if root == NOWHERE:
        return root
    way, pairs = way_to(log, root, key)
    left = [pair for pair in pairs if pair[0] != key]
    if len(left) == len(pairs):
        return root
    made = put_nodes(log, LEAF, left)
    for below, (above, at) in enumerate(reversed(way)):
        left = above[:at] + made + above[at + 1:]
        if below + 1 == len(way) and len(left) == 1:
            return lowered(log, left[0][1], below)
        made = put_nodes(log, INNER, left)
    return made[0][1] if made else NOWHERE


def lowered(log, root, inner_levels):
    """Return the root below all roots that are inner nodes with one entry.

    The leaves are `inner_levels` levels below the root, so that a leaf need not
    be read to be known as one.
    """
    pointer = root
    for _ in range(inner_levels):
        _, pairs = read_node(log, pointer)
        if len(pairs) > 1:
            return pointer
        pointer = pairs[0][1]
    return pointer


def exchange(log, root, pairs, gone):
    """Return the root of the tree with these pairs and without the keys that are gone.

    If a needed node is damaged, the batch is left as it was.
    """
    before = log.pending
    changed = root
    try:
        for key, pointer in pairs:
            changed = put(log, changed, key, pointer)
        for key in gone:
            changed = remove(log, changed, key)
    except Damaged:
        log.keep(before)
        raise
    return changed


def entries(log, root, *, low=(), high=None):
    """Go through the pairs of a key and a pointer from `low` up to `high`."""
    if root == NOWHERE or (high is not None and high <= low):
        return
    kind, pairs = read_node(log, root)
    if kind == INNER:
        for pointer in nodes_between(pairs, low, high):
            yield from entries(log, pointer, low=low, high=high)
        return
    for key, pointer in pairs:
        if key >= low and (high is None or key < high):
            yield key, pointer


def nodes_between(pairs, low, high):
    """Return the pointers of the nodes below that can contain keys from `low` up to `high`."""
    found = []
    for at, (key, pointer) in enumerate(pairs):
        reaches_low = at + 1 == len(pairs) or pairs[at + 1][0] > low
        if reaches_low and (high is None or key < high):
            found.append(pointer)
    return found


def tree_depth(log, root):
    """Return the number of levels of the tree."""
    if root == NOWHERE:
        return 0
    way, _ = way_to(log, root, ())
    return len(way) + 1


def node_pointers(log, root):
    """Return the pointers of all nodes: the root, and then the nodes below each entry."""
    if root == NOWHERE:
        return []
    found = [root]
    kind, pairs = read_node(log, root)
    if kind == INNER:
        for _, pointer in pairs:
            found.extend(node_pointers(log, pointer))
    return found


def way_to(log, root, key):
    """Return the way to the leaf where the key belongs, and the pairs of this leaf.

    The way has the pairs of each inner node and the place where it leads down.
    """
    way = []
    kind, pairs = read_node(log, root)
    while kind == INNER:
        at = place_below(pairs, key)
        way.append((pairs, at))
        kind, pairs = read_node(log, pairs[at][1])
    return way, pairs


def place_below(pairs, key):
    """Return which entry of an inner node leads to the leaf where the key belongs."""
    at = 0
    while at + 1 < len(pairs) and pairs[at + 1][0] <= key:
        at = at + 1
    return at


def with_pair(pairs, key, pointer):
    """Return the pairs of a leaf in which the key has this pointer."""
    before = [pair for pair in pairs if pair[0] < key]
    behind = [pair for pair in pairs if pair[0] > key]
    return before + [(key, pointer)] + behind


def put_nodes(log, kind, pairs):
    """Put the node with these pairs, or the two that it becomes; return their pairs above.

    A node without pairs is left out.
    """
    if not pairs:
        return []
    parts = [pairs]
    if len(pairs) > MOST_PAIRS:
        parts = [pairs[:FIRST_OF_TWO], pairs[FIRST_OF_TWO:]]
    return [(part[0][0], log.put(kind, write_node(part))) for part in parts]


def write_node(pairs):
    """Return the content of the node with these pairs."""
    content = write_number(len(pairs))
    for key, (address, length) in pairs:
        content.extend(write_integers(key) + write_number(address) + write_number(length))
    return content


def read_node(log, pointer):
    """Return the kind and the pairs of the node with this pointer."""
    kind = LEAF
    try:
        content = log.fetch(LEAF, pointer)
    except Damaged:
        kind = INNER
        content = log.fetch(INNER, pointer)
    return kind, pairs_in(content, pointer)


def pairs_in(content, pointer):
    """Return the pairs in the content of the node with this pointer."""
    address, length = pointer
    try:
        pairs, behind = read_list(content, 0, read_pair)
    except Unreadable:
        raise Damaged(address, length) from None
    if behind < len(content) or not 1 <= len(pairs) <= MOST_PAIRS:
        raise Damaged(address, length)
    return pairs


def read_pair(content, index):
    """Return the pair of a key and a pointer at the index, and the index behind it."""
    key, behind = read_integers(content, index)
    address, behind = read_number(content, behind)
    length, behind = read_number(content, behind)
    return (tuple(key), (address, length)), behind
