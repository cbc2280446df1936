"""All shapes of a label, and those that fit one source of a library alone."""

from sourcelabels.labels import full_label, is_within
from sourcelabels.sources import check_index, check_library, check_source
from sourcelabels.styles import label_by
from sourcelabels.texts import format_label

# How a person can be shown: by nothing, by the initial, by the given name.
LEVELS = (0, 1, 2)


def shapes(source):
    """The list of the labels of all states of a source, ascending by the states; equal ones count once."""
    check_source(source)
    return shapes_of(source)


def alone(library, index):
    """The list of the shapes of the source with this index that fit no other source of the library."""
    check_library(library)
    check_index(library, index)
    others = [full_label(source) for k, source in enumerate(library) if k != index]
    return [label for label in shapes_of(library[index]) if not holds_any(label, others)]


def widest_alone(library, index):
    """The list of the shapes that stand alone and are narrower than no other one of them."""
    found = alone(library, index)
    return [label for label in found if not any([is_within(label, other) and other != label for other in found])]


def shortest(library, index):
    """One of the shapes that stand alone with the fewest characters as a text, or None."""
    return shortest_of(alone(library, index))


def shapes_of(source):
    """Shapes, for a source that is known to be one."""
    # The keys of a dict keep their order, and each stands once.
    return list({label_by(state, source): True for state in states_of(source)})


def states_of(source):
    """The list of all states that a source can be in, ascending."""
    return [(many, first, rest, title) for many in range(1, len(source[0]) + 1)
            for first in LEVELS for rest in LEVELS for title in (False, True)]


def holds_any(label, others):
    """Whether one of the other labels is within a label."""
    return any([is_within(other, label) for other in others])


def shortest_of(labels):
    """One of the labels with the fewest characters as a text, or None if there is no label."""
    return min(labels, key=many_signs, default=None)


def many_signs(label):
    """How many characters a label has as a text."""
    return len(format_label(label))
