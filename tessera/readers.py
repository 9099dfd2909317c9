"""Reading the parts of a content one after another (point 5)."""

from tessera.numbers import read_integers, read_number, read_text


class Reader:
    """A content, and the index from which on it is not yet read."""

    def __init__(self, content):
        self._content = list(content)
        self.at = 0

    def is_done(self):
        """Tell whether nothing is left to read."""
        return self.at == len(self._content)

    def number(self):
        """Return the number that is written next."""
        found, self.at = read_number(self._content, self.at)
        return found

    def integers(self):
        """Return the list of integers that is written next, as a tuple."""
        found, self.at = read_integers(self._content, self.at)
        return tuple(found)

    def text(self):
        """Return the text that is written next."""
        found, self.at = read_text(self._content, self.at)
        return found
