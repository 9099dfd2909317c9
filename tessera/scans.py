"""Scans: reading on where records are damaged (points 47 and 55)."""

from tessera.chunks import read_chunk
from tessera.directories import fetch_object
from tessera.errors import Damaged
from tessera.records import INNER, NOWHERE
from tessera.trees import read_node


def scan_tree(log, root):
    """Return the ascending pairs of a tree that can be found, and what its nodes are.

    The nodes are a dict from the pointers of the nodes that were visited to
    whether they are damaged; below a damaged one nothing is visited.
    """
    found = []
    nodes = {}
    waiting = [] if root == NOWHERE else [root]
    while waiting:
        pointer = waiting.pop()
        try:
            kind, pairs = read_node(log, pointer)
        except Damaged:
            nodes[pointer] = True
            continue
        nodes[pointer] = False
        if kind == INNER:
            # The last one that waits is the next one.
            waiting.extend([below for _, below in reversed(pairs)])
        else:
            found.extend(pairs)
    return found, nodes


def scan_object(log, pointer):
    """Return the object whose record has this pointer, or None if it is damaged."""
    try:
        return fetch_object(log, pointer)
    except Damaged:
        return None


def scan_chunk(log, layout, pointer):
    """Return the values of the chunk whose record has this pointer, or None if it is damaged."""
    try:
        return read_chunk(log, layout, pointer)
    except Damaged:
        return None
