"""Making stores and opening them (point 37)."""

from tessera.deeds import with_object
from tessera.logs import Log
from tessera.objects import Group
from tessera.records import NOWHERE
from tessera.seals import make_ready
from tessera.stores import Store


def new_store(disk):
    """Return a store on an empty disk, with the root group only."""
    log = Log(disk)
    root = with_object(log, NOWHERE, "", Group([]))
    log.seal(root)
    return Store(log, root)


def open_store(disk):
    """Return the store on a disk, as its last seal left it."""
    _, root = make_ready(disk)
    return Store(Log(disk), root)
