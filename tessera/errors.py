"""All errors of the program."""

# Integers have no bounds in between, but Python refuses to write those of
# thousands of digits, and does so with an error that is not one of the program.
BEYOND_TOLD = 10 ** 30


def told(thing):
    """Return how a message tells a field of an error."""
    if isinstance(thing, int) and abs(thing) >= BEYOND_TOLD:
        return "(more than thirty digits)"
    return str(thing)


class TesseraError(ValueError):
    """The base class of all errors of the program."""


class Unreadable(TesseraError):
    """Nothing of the wanted form is written at the index."""

    def __init__(self, index):
        super().__init__(f"nothing of this form can be read at index {told(index)}")
        self.index = index


class InvalidValue(TesseraError):
    """A value is outside of the range of its kind."""

    def __init__(self, value):
        super().__init__(f"the value {told(value)} is outside of the range")
        self.value = value


class InvalidShape(TesseraError):
    """A shape is not valid, or not one that fits here."""


class InvalidSelection(TesseraError):
    """A selection does not fit its shape."""


class TooLarge(TesseraError):
    """There are more indexes than the limit."""

    def __init__(self, limit):
        super().__init__(f"more than {told(limit)} indexes")
        self.limit = limit


class WrongCount(TesseraError):
    """The number of values is not the one that is due."""

    def __init__(self, due, given):
        super().__init__(f"{told(due)} values are due, and {told(given)} are given")
        self.due = due
        self.given = given


class BadFilter(TesseraError):
    """Bytes are not the result of the filter with this name."""

    def __init__(self, name):
        super().__init__(f"the bytes are not a result of the filter {name}")
        self.name = name


class NotAStore(TesseraError):
    """A file has no whole seal."""


class Damaged(TesseraError):
    """The record with this pointer is damaged."""

    def __init__(self, address, length):
        super().__init__(f"the record of {told(length)} bytes at {told(address)} is damaged")
        self.address = address
        self.length = length


class InvalidPath(TesseraError):
    """A path is not valid, or is empty where it may not be."""

    def __init__(self, path):
        super().__init__(f"the path {path} is not valid here")
        self.path = path


class NotFound(TesseraError):
    """There is nothing at the path."""

    def __init__(self, path):
        super().__init__(f"there is nothing at {path}")
        self.path = path


class AlreadyThere(TesseraError):
    """There is something at the path."""

    def __init__(self, path):
        super().__init__(f"there is something at {path}")
        self.path = path


class NotAGroup(TesseraError):
    """The path is not that of a group that is there."""

    def __init__(self, path):
        super().__init__(f"there is no group at {path}")
        self.path = path


class NotAnArray(TesseraError):
    """The object at the path does not have what an array has."""

    def __init__(self, path):
        super().__init__(f"there is no such array at {path}")
        self.path = path


class IntoItself(TesseraError):
    """Something would be moved or copied into itself."""

    def __init__(self, path):
        super().__init__(f"{path} is the first path or lies in it")
        self.path = path


class InvalidPart(TesseraError):
    """A kind, chunk shape, chain, piece or attribute is not valid."""


class NoAttribute(TesseraError):
    """There is no attribute with this name."""

    def __init__(self, name):
        super().__init__(f"there is no attribute {name}")
        self.name = name


class InvalidDump(TesseraError):
    """A text is not a dump, from this line on."""

    def __init__(self, line):
        super().__init__(f"line {told(line)} is not one of a dump")
        self.line = line


class UnknownBatch(TesseraError):
    """No whole seal has this number of a batch."""

    def __init__(self, missing):
        super().__init__(f"there is no seal of the batch {told(missing)}")
        self.missing = missing


class InvalidExpression(TesseraError):
    """An expression or its text is not valid."""
