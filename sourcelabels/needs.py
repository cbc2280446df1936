"""What sources force from one another: needs, places, labels and how they grow old."""

from sourcelabels.errors import SameSource
from sourcelabels.labels import check_label
from sourcelabels.places import (
    check_styled, check_styled_index, labels_at, labels_of, need_in, needs_of, needs_table, or_none, paths_of,
)
from sourcelabels.sources import check_source
from sourcelabels.styles import check_style, path_of


def need(style, source, other):
    """The least index of a label in the path of source that does not fit other, or None."""
    check_style(style)
    check_source(source)
    check_source(other)
    if source == other:
        raise SameSource()
    path = path_of(style, source)
    return or_none(need_in(path, other), path)


def place_of(style, library, index):
    """The place of the source with this index, or None."""
    check_styled_index(style, library, index)
    path = path_of(style, library[index])
    return or_none(max(needs_of(path, library, index)), path)


def label_of(style, library, index):
    """The label of the source with this index."""
    check_styled_index(style, library, index)
    return labels_of(style, library)[index]


def labels(style, library):
    """The list of the labels of all sources."""
    check_styled(style, library)
    return labels_of(style, library)


def reason(style, library, index):
    """The least index of another source that forces the place by itself, or None for the place 0."""
    check_styled_index(style, library, index)
    needs = needs_of(path_of(style, library[index]), library, index)
    place = max(needs)
    return None if place == 0 else needs.index(place)


def forced_by(style, library, index):
    """The ascending list of the indexes of the sources whose place would be less without the one with this index."""
    check_styled_index(style, library, index)
    table = needs_table(paths_of(style, library), library)
    return [k for k, needs in enumerate(table) if is_forced_alone(needs, index)]


def is_forced_alone(needs, index):
    """Whether the need against the source with this index is greater than all others of a source."""
    return needs[index] > max(needs[:index] + needs[index + 1:], default=0)


def lookup(style, library, label):
    """The index of the source whose label this is, or None."""
    check_styled(style, library)
    check_label(label)
    found = labels_of(style, library)
    return found.index(label) if label in found else None


def printing(style, library):
    """Yield, for each source, its label at its coming and the list of the indexes whose labels change by it."""
    check_styled(style, library)
    paths = paths_of(style, library)
    table = needs_table(paths, library)
    old = []
    for index in range(len(library)):
        many = index + 1
        places = [max(needs[:many]) for needs in table[:many]]
        new = labels_at(paths[:many], library, places)
        changed = [k for k, label in enumerate(old) if new[k] != label]
        old = new
        yield (new[index], changed)


def stale(style, library):
    """The ascending list of the indexes of the sources whose label is no longer the one that printing yields."""
    now = labels(style, library)
    printed = [label for label, _ in printing(style, library)]
    return [index for index, label in enumerate(printed) if label != now[index]]
