"""Archives: the records of a file, for reading only."""

from tessera.records import read_record


class Archive:
    """A disk whose records are fetched as those of a log, and which does not change by it.

    Other than for a log, it does not matter how the file ends.
    """

    def __init__(self, disk):
        self._disk = disk

    def fetch(self, kind, pointer):
        """Return the content of a record of the file."""
        return read_record(self._disk, kind, pointer)
