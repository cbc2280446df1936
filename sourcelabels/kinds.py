"""Libraries that refuse some of the changes."""

from sourcelabels.basics import is_integer_from
from sourcelabels.errors import InvalidNumber, LabelsChange, TooMany
from sourcelabels.live import LiveLibrary


class StrictLibrary(LiveLibrary):
    """A library in which no call of come or go changes the labels of other sources."""

    def told_words(self):
        """The list of the kind above, and the word strict."""
        return super().told_words() + ["strict"]

    def _allow(self, many, count):
        """Raise LabelsChange if labels of other sources would be others."""
        super()._allow(many, count)
        if count > 0:
            raise LabelsChange(count)


class BoundedLibrary(LiveLibrary):
    """A library that never has more than most sources."""

    def __init__(self, style, library=(), most=30):
        super().__init__(style, library)
        if not is_integer_from(most, 0):
            raise InvalidNumber()
        self._most = most
        check_bound(len(library), most)

    def told_words(self):
        """The list of the kind above, and the bound."""
        return super().told_words() + [f"most {self._most}"]

    def _allow(self, many, count):
        """Raise TooMany if there would be more sources than the bound allows."""
        super()._allow(many, count)
        check_bound(many, self._most)


class StrictBoundedLibrary(BoundedLibrary, StrictLibrary):
    """A library that is both: with this order of the kinds, strict speaks and refuses ahead of the bound."""


def check_bound(many, most):
    """Raise TooMany if so many sources are more than the bound allows."""
    if many > most:
        raise TooMany(many)
