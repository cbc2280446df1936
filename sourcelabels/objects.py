"""Labels and libraries as objects that never change."""

from sourcelabels.errors import NotALabel, NotALibrary, NothingCommon, NotThere, OtherStyle
from sourcelabels.labels import check_label, common, full_label, is_within
from sourcelabels.places import check_styled, labels_of, lettered
from sourcelabels.sources import check_source, is_source


class Label:
    """A label that can be asked which sources it fits."""

    def __init__(self, label):
        check_label(label)
        self._label = label

    @property
    def label(self):
        """The label as a tuple."""
        return self._label

    def __call__(self, source):
        """Whether the label fits a source."""
        check_source(source)
        return is_within(full_label(source), self._label)

    def __contains__(self, x):
        """Whether a Label object is narrower, or any other value is a source that the label fits."""
        if isinstance(x, Label):
            return is_within(x.label, self._label)
        return is_source(x) and is_within(full_label(x), self._label)

    def __and__(self, other):
        """The object of the label that fits just the sources that both fit."""
        if not isinstance(other, Label):
            raise NotALabel()
        found = common(self._label, other.label)
        if found is None:
            raise NothingCommon()
        return Label(found)

    def __eq__(self, other):
        """Whether both are Label objects with equal labels but for the letters."""
        if not isinstance(other, Label):
            return False
        return lettered(self._label, "") == lettered(other.label, "")

    def __len__(self):
        """The number of the pairs."""
        return len(self._label[0])


class Library:
    """A library with a style that can be asked for the labels of its sources."""

    def __init__(self, style, library):
        check_styled(style, library)
        self._style = style
        self._library = library

    @property
    def style(self):
        """The style as a tuple."""
        return self._style

    @property
    def library(self):
        """The library as a tuple."""
        return self._library

    def __call__(self, source):
        """The label of one of the sources."""
        if source not in self:
            raise NotThere()
        return labels_of(self._style, self._library)[self._library.index(source)]

    def __add__(self, other):
        """The object with the sources of this one and, behind them, those of the other one that are not here."""
        if not isinstance(other, Library):
            raise NotALibrary()
        if other.style != self._style:
            raise OtherStyle()
        more = [source for source in other.library if source not in self._library]
        return Library(self._style, self._library + tuple(more))

    def __eq__(self, other):
        """Whether both are Library objects with equal styles and equal libraries."""
        if not isinstance(other, Library):
            return False
        return self._style == other.style and self._library == other.library

    def __len__(self):
        """The number of the sources."""
        return len(self._library)

    def __contains__(self, x):
        """Whether any value is one of the sources."""
        return is_source(x) and x in self._library
