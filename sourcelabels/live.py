"""A library that changes."""

from sourcelabels.errors import InvalidChange, NothingToUndo, SameSource
from sourcelabels.places import check_styled, labels_of
from sourcelabels.sources import check_index, check_source
from sourcelabels.styles import is_style
from sourcelabels.texts import parse_style

COME = "come"
GO = "go"


class LiveLibrary:
    """A library to which sources come and from which they go; each such call can be taken back."""

    EMPTY = ()

    def __init__(self, style, library=()):
        check_styled(style, library)
        self._style = style
        self._library = library
        self._labels = tuple(labels_of(style, library))
        # For each call that undo can remove: its name, and the library and the labels as they were.
        self._past = []

    @classmethod
    def read(cls, style_text):
        """An object with the style of a text and the empty library."""
        return cls(parse_style(style_text))

    @staticmethod
    def is_valid(value):
        """Whether any value is a style."""
        return is_style(value)

    @property
    def library_now(self):
        """The library as a tuple."""
        return self._library

    @property
    def labels_now(self):
        """The labels of all sources as a tuple."""
        return self._labels

    def come(self, source):
        """Put a source in as the last one; return how many labels of the others are others now."""
        return self._make(COME, source)

    def go(self, index):
        """Take the source with this index out; return how many labels of the others are others now."""
        return self._make(GO, index)

    def undo(self):
        """Take back the latest call of come or go that is left; return its name."""
        if self._past == []:
            raise NothingToUndo()
        word, library, labels = self._past.pop()
        self._library = library
        self._labels = labels
        return word

    def try_changes(self, *changes):
        """The list of the numbers that these changes would return one after the other; nothing changes."""
        library, labels = self._library, self._labels
        counts = []
        for change in changes:
            check_change(change)
            word, value = change
            library, labels, count = self._changed(library, labels, word, value)
            counts.append(count)
        return counts

    def told_words(self):
        """The list of strings that tell how many sources and labels with letters there are."""
        many = len([label for label in self._labels if label[4] != ""])
        return [f"sources {len(self._library)}", f"letters {many}"]

    def __len__(self):
        """The number of calls that undo can remove."""
        return len(self._past)

    def _make(self, word, value):
        """Make a change; return how many labels of the other sources are others now."""
        library, labels, count = self._changed(self._library, self._labels, word, value)
        self._past.append((word, self._library, self._labels))
        self._library = library
        self._labels = labels
        return count

    def _changed(self, library, labels, word, value):
        """The library and its labels behind a change, and how many labels of the other sources are others then."""
        if word == COME:
            check_coming(library, value)
            others, told = labels, library + (value,)
        else:
            check_index(library, value)
            others, told = without(labels, value), without(library, value)
        new = tuple(labels_of(self._style, told))
        # The source that comes is the last one, so it has no label ahead to compare with.
        count = len([label for label, now in zip(others, new) if label != now])
        self._allow(len(told), count)
        return told, new, count

    def _allow(self, many, count):
        """Raise the error of a kind of library that refuses to have so many sources or so many labels changed."""


def check_coming(library, value):
    """Raise the error for a value that is no source, or else for one that is in the library already."""
    check_source(value)
    if value in library:
        raise SameSource()


def check_change(value):
    """Raise InvalidChange for any value that is no tuple of the name of a call and its argument."""
    if not isinstance(value, tuple) or len(value) != 2 or not isinstance(value[0], str) or value[0] not in (COME, GO):
        raise InvalidChange()


def without(values, index):
    """A tuple without the value at an index."""
    return values[:index] + values[index + 1:]
