"""The errors of the package."""


class LabelError(ValueError):
    """The base class of all errors of the package."""


class InvalidNumber(LabelError):
    """A value is not the integer that it has to be."""


class InvalidLetters(LabelError):
    """A value is no non-empty string of letters from a to z."""


class InvalidName(LabelError):
    """A value is no name."""


class InvalidSource(LabelError):
    """A value is no source."""


class InvalidLibrary(LabelError):
    """A value is no library."""


class InvalidLabel(LabelError):
    """A value is no label."""


class InvalidStyle(LabelError):
    """A value is no style."""


class InvalidIndex(LabelError):
    """A value is no index of a source."""


class InvalidOrder(LabelError):
    """A value is no list of all indexes in which each one stands once."""


class InvalidTold(LabelError):
    """A value is no list of labels as long as the library."""


class InvalidText(LabelError):
    """A value is no text of the kind that is read."""


class InvalidChange(LabelError):
    """A value is no change of a library."""


class SameSource(LabelError):
    """Two sources that have to differ are equal."""


class NotALabel(LabelError):
    """The right operand is no label object."""


class NothingCommon(LabelError):
    """No source is fitted by both labels."""


class NotThere(LabelError):
    """A value is none of the sources of the library."""


class NotALibrary(LabelError):
    """The right operand is no library object."""


class OtherStyle(LabelError):
    """Two libraries have different styles."""


class NothingToUndo(LabelError):
    """No call is left that could be taken back."""


class LabelsChange(LabelError):
    """Labels of other sources would change: count of them."""

    def __init__(self, count):
        super().__init__("labels of other sources would change")
        self.count = count


class TooMany(LabelError):
    """There would be more sources than the bound allows: count of them."""

    def __init__(self, count):
        super().__init__("there would be more sources than the bound allows")
        self.count = count
