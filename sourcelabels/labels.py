"""Labels, and the sets of sources that they fit."""

from sourcelabels.basics import is_integer_from, is_letters
from sourcelabels.errors import InvalidLabel
from sourcelabels.sources import check_library, check_source, is_name, is_title


def is_label(value):
    """Whether any value is a label."""
    if not isinstance(value, tuple) or len(value) != 5:
        return False
    shown, more, year, title, letters = value
    if not is_shown(shown) or not isinstance(more, bool) or not is_integer_from(year, 0):
        return False
    return (title is None or is_title(title)) and is_letters(letters)


def is_shown(value):
    """Whether any value is a non-empty tuple of pairs (family, part)."""
    return isinstance(value, tuple) and len(value) > 0 and all([is_pair(pair) for pair in value])


def is_pair(value):
    """Whether any value is a pair (family, part) of a label."""
    return isinstance(value, tuple) and len(value) == 2 and is_name(value[0]) and is_part(value[1])


def is_part(value):
    """Whether any value is the empty string, an initial or a name."""
    if not isinstance(value, str):
        return False
    return value == "" or is_name(value) or is_initial(value)


def is_initial(text):
    """Whether a string is a letter and a point."""
    return len(text) == 2 and is_letters(text[0]) and text[1] == "."


def check_label(value):
    """Raise InvalidLabel for any value that is no label."""
    if not is_label(value):
        raise InvalidLabel()


def fits(label, source):
    """Whether a label fits a source."""
    check_label(label)
    check_source(source)
    return is_within(full_label(source), label)


def fitting(library, label):
    """The ascending list of the indexes of the sources that a label fits."""
    check_library(library)
    check_label(label)
    return [index for index, source in enumerate(library) if is_within(full_label(source), label)]


def narrower(label, other):
    """Whether every source that the first label fits is also fitted by the other one."""
    check_label(label)
    check_label(other)
    return is_within(label, other)


def common(label, other):
    """The label without letters that fits just the sources that both fit, or None."""
    check_label(label)
    check_label(other)
    joined = joined_label(label, other)
    # If both fit a source, all parts of the joined label are at least as narrow as those of both.
    return joined if is_within(joined, label) and is_within(joined, other) else None


def outside(label, other):
    """A source that the first label fits and the other one does not fit, or None."""
    check_label(label)
    check_label(other)
    if is_within(label, other):
        return None
    shown, _, year, title, _ = label
    met = [pair[1] for pair in other[0]] + [""] * len(shown)
    people = [(family, given_apart(part, against)) for (family, part), against in zip(shown, met)]
    unseen = [("a", "a")] * many_unseen(label, other)
    return (tuple(people + unseen), year, title_apart(title, other[3]))


def full_label(source):
    """The label that shows all people of a source with their given names, and its title."""
    people, year, title = source
    return (people, False, year, title, "")


def is_within(label, other):
    """Narrower, for two values that are known to be labels.

    A full label fits one source alone, so this also tells whether a label fits a source.
    """
    shown, _, year, title, _ = label
    wider, _, other_year, other_title, _ = other
    if year != other_year or not is_number_within(label, other):
        return False
    if other_title is not None and other_title != title:
        return False
    return all([is_pair_within(pair, wide) for pair, wide in zip(shown, wider)])


def is_number_within(label, other):
    """Whether the other label allows every number of people that the label allows."""
    many, more = len(label[0]), label[1]
    least, other_more = len(other[0]), other[1]
    if not other_more:
        return not more and many == least
    return many >= least if more else many > least


def is_pair_within(pair, other):
    """Whether every person that the pair fits is also fitted by the other pair."""
    family, part = pair
    other_family, other_part = other
    return family == other_family and is_part_within(part, other_part)


def is_part_within(part, other):
    """Whether every given name that the part fits is also fitted by the other part."""
    return other in ("", part, part[:1] + ".")


def joined_label(label, other):
    """The label that fits just the sources that both fit, if there is such a source."""
    shown, more, year, title, _ = label
    other_shown, other_more, _, other_title, _ = other
    pairs = [a if is_pair_within(a, b) else b for a, b in zip(shown, other_shown)]
    many = len(pairs)
    rest = shown[many:] + other_shown[many:]
    told = other_title if title is None else title
    return (tuple(pairs) + rest, more and other_more, year, told, "")


def given_apart(part, other):
    """A given name that the part fits and, if there is one, that the other part does not fit."""
    if is_name(part):
        return part
    first, second = ("a", "b") if part == "" else (part[0], part[0] + part[0])
    return second if is_part_within(first, other) else first


def title_apart(title, other):
    """A title that a label with this title fits and, if there is one, another label does not."""
    if title is not None:
        return title
    return "b" if other == "a" else "a"


def many_unseen(label, other):
    """How many people a source has behind the pairs of a label that fits it.

    The number is chosen so that the other label does not fit, if the number alone can tell.
    """
    shown, more = label[0], label[1]
    if not more:
        return 0
    # One person more than shown is too few or too many for the other label, unless it asks for just so many.
    return 2 if not other[1] and len(other[0]) == len(shown) + 1 else 1
