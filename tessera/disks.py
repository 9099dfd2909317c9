"""Disks: files in memory (point 16)."""


class Disk:
    """A file: a sequence of bytes that grows at its end."""

    def __init__(self, values):
        self._file = list(values)

    def __len__(self):
        return len(self._file)

    def part(self, address, count):
        """Return `count` bytes from the address on, or fewer at the end."""
        return self._file[address:address + count]

    def append(self, values):
        """Append bytes."""
        self._file.extend(values)

    def cut(self, count):
        """Keep only the first `count` bytes."""
        del self._file[count:]

    def change(self, address, value):
        """Replace one byte, as damage does."""
        self._file[address] = value

    def copied(self):
        """Return a new disk with the same bytes."""
        return Disk(self._file)
