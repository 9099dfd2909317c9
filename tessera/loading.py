"""Loading dumps (point 50)."""

from tessera.chunks import encode_chunk
from tessera.drafts import Drafts
from tessera.errors import InvalidDump
from tessera.logs import Log
from tessera.objects import ArrayObject, Group, View, write_object
from tessera.opening import new_store, open_store
from tessera.paths import key_of
from tessera.records import CHUNK, OBJECT
from tessera.trees import put_tree
from tessera.words import BadWord


def load(disk, text):
    """Return a store on an empty disk, in whose batch 1 everything is made that the dump describes."""
    drafts = drafts_in(text)
    new_store(disk)
    log = Log(disk)
    rows = [(key_of(draft.path), put_draft(log, draft)) for draft in drafts]
    log.seal(put_tree(log, rows))
    return open_store(disk)


def drafts_in(text):
    """Return the list of the objects that the dump describes."""
    drafts = Drafts()
    lines = text.split("\n")
    for number, line in enumerate(lines, start=1):
        try:
            drafts.take(line)
        except BadWord:
            raise InvalidDump(number) from None
    if not drafts.are_complete():
        raise InvalidDump(len(lines) + 1)
    return drafts.made


def put_draft(log, draft):
    """Put the records of an object, and return the pointer of its own."""
    if draft.word == "group":
        thing = Group(draft.attributes)
    elif draft.word == "view":
        thing = View(draft.attributes, draft.kind, draft.shape, draft.fill, draft.pieces)
    else:
        thing = ArrayObject(draft.attributes, draft.shape, draft.layout, put_chunks(log, draft))
    return log.put(OBJECT, write_object(thing))


def put_chunks(log, draft):
    """Put the chunks of an array, and return the root of the index that finds them."""
    rows = [(grid, log.put(CHUNK, encode_chunk(draft.layout, values))) for grid, values in draft.chunks]
    return put_tree(log, rows)
