"""Plain arrays: a shape with a list of values (point 12)."""

from tessera.errors import InvalidShape, TooLarge, WrongCount
from tessera.selections import MOST_PICKED, meeting, picked, whole
from tessera.shapes import element_count, is_shape, rank_of


class PlainArray:
    """A shape with one value for each of its indexes, in row order."""

    def __init__(self, shape, fill):
        if not is_shape(shape):
            raise InvalidShape("the shape is not valid")
        if element_count(shape) > MOST_PICKED:
            raise TooLarge(MOST_PICKED)
        self.shape = shape
        self.fill = fill
        self._held = [fill] * element_count(shape)

    def all_values(self):
        """Return all values in row order."""
        return list(self._held)

    def read(self, selection):
        """Return the values at the indexes that the selection picks."""
        return [self._held[rank_of(self.shape, index)] for index in picked(self.shape, selection)]

    def write(self, selection, values):
        """Replace the values at the indexes that the selection picks."""
        indexes = picked(self.shape, selection)
        if len(values) != len(indexes):
            raise WrongCount(len(indexes), len(values))
        for index, value in zip(indexes, values):
            self._held[rank_of(self.shape, index)] = value

    def resize(self, shape):
        """Take another shape with as many dimensions; what is new has the fill value."""
        if len(shape) != len(self.shape):
            raise InvalidShape("the array has another number of dimensions")
        resized = PlainArray(shape, self.fill)
        kept = meeting(whole(self.shape), whole(shape))
        if kept is not None:
            resized.write(kept, self.read(kept))
        self.shape = shape
        self._held = resized.all_values()
