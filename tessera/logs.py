"""Logs: a disk and the batch that is not yet in it (point 23)."""

from tessera.records import content_of, make_record
from tessera.seals import SEAL_LENGTH, make_seal, seal_at


class Log:
    """A disk together with the bytes of the present batch."""

    def __init__(self, disk):
        self.disk = disk
        self._waiting = []
        self._sealed = -1
        last = seal_at(disk, len(disk) - SEAL_LENGTH)
        if last is not None:
            self._sealed = last[0]

    @property
    def batch(self):
        """The number of the last sealed batch, or -1."""
        return self._sealed

    @property
    def pending(self):
        """The number of bytes of the present batch."""
        return len(self._waiting)

    def put(self, kind, content):
        """Put a record into the batch and return its pointer."""
        record = make_record(kind, content)
        pointer = (len(self.disk) + len(self._waiting), len(record))
        self._waiting.extend(record)
        return pointer

    def fetch(self, kind, pointer):
        """Return the content of a record of the file or of the batch."""
        address, length = pointer
        start = address - len(self.disk)
        # A record that begins in the file ends there, too: a seal stands between
        # it and the batch.
        if start < 0:
            return content_of(self.disk.part(address, length), kind, pointer)
        return content_of(self._waiting[start:start + length], kind, pointer)

    def seal(self, root):
        """Write the batch and two copies of its seal, and begin a new batch."""
        copy = make_seal(self._sealed + 1, root)
        self.disk.append(self._waiting + copy + copy)
        self._waiting = []
        self._sealed = self._sealed + 1

    def drop(self):
        """Forget the bytes of the batch."""
        self.keep(0)

    def keep(self, count):
        """Forget the bytes of the batch behind the first `count` ones."""
        del self._waiting[count:]
