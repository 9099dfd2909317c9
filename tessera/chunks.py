"""Chunks: the records that hold the values of arrays (points 29 and 30)."""

from tessera.errors import BadFilter, Damaged, Unreadable
from tessera.filters import apply_chain, undo_chain
from tessera.kinds import load_values, store_values, width
from tessera.numbers import read_bytes, write_bytes
from tessera.records import CHUNK
from tessera.shapes import element_count
from tessera.trees import find, put


def encode_chunk(layout, values):
    """Return the content of the record of a chunk with these values."""
    stored = store_values(layout.kind, values)
    return write_bytes(apply_chain(layout.filters, stored, width(layout.kind)))


def decode_chunk(layout, content):
    """Return the values of the chunk, or None if the content is not that of a chunk."""
    size = width(layout.kind)
    try:
        passed, behind = read_bytes(content, 0)
        stored = undo_chain(layout.filters, passed, size)
    except (Unreadable, BadFilter):
        return None
    if behind < len(content) or len(stored) != size * element_count(layout.chunk_shape):
        return None
    return load_values(layout.kind, stored)


def read_chunk(log, layout, pointer):
    """Return the values of the chunk whose record has this pointer."""
    values = decode_chunk(layout, log.fetch(CHUNK, pointer))
    if values is None:
        address, length = pointer
        raise Damaged(address, length)
    return values


def load_chunk(log, layout, root, grid):
    """Return the values of the chunk with this grid index."""
    pointer = find(log, root, grid)
    if pointer is None:
        return [layout.fill] * element_count(layout.chunk_shape)
    return read_chunk(log, layout, pointer)


def save_chunk(log, layout, root, grid, values):
    """Return the root of the tree that finds these values in the chunk."""
    # Looking it up needs the nodes that putting it needs. So a damaged one is
    # told before the record is put.
    find(log, root, grid)
    return put(log, root, grid, log.put(CHUNK, encode_chunk(layout, values)))
