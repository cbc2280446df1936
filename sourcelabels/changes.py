"""What changes when sources come and go, and what can still change."""

from sourcelabels.basics import is_integer_from
from sourcelabels.errors import InvalidNumber, SameSource
from sourcelabels.labels import full_label, outside
from sourcelabels.places import check_styled, check_styled_index, labels_of, needs_of, tail_of
from sourcelabels.sources import check_library, check_source
from sourcelabels.styles import path_of


def coming(style, library, source):
    """The list of (index, old, new) for all labels that change when a source comes."""
    check_styled(style, library)
    check_source(source)
    if source in library:
        raise SameSource()
    return changes_by(style, library, (source,))


def leaving(style, library, index):
    """The list of (index, old, new) for all other labels that change when the source with this index goes."""
    check_styled_index(style, library, index)
    old = labels_of(style, library)
    left = labels_of(style, library[:index] + library[index + 1:])
    # The source that goes keeps its label here, so that the indexes agree and it does not count.
    return changed_labels(old, left[:index] + [old[index]] + left[index:])


def is_quiet(style, library, source):
    """Whether no label changes when a source comes."""
    return coming(style, library, source) == []


def joining(style, library, other):
    """The list of (index, old, new) for all labels that change when the sources of another library come at once."""
    check_styled(style, library)
    check_library(other)
    return changes_by(style, library, tuple([source for source in other if source not in library]))


def changes_by(style, library, sources):
    """The list of (index, old, new) for all labels that change when these sources come, which are not there yet."""
    return changed_labels(labels_of(style, library), labels_of(style, library + sources))


def changed_labels(old, new):
    """The list of (index, old, new) for all labels that are others now; there may be more new ones than old ones."""
    return [(index, label, new[index]) for index, label in enumerate(old) if new[index] != label]


def settled(style, library):
    """The ascending list of the indexes of the sources whose label says all, so that it never changes."""
    check_styled(style, library)
    found = labels_of(style, library)
    return [index for index, source in enumerate(library) if found[index] == full_label(source)]


def can_become(style, library, index):
    """The list of all labels, without letters, that the source with this index can have once sources have come."""
    check_styled_index(style, library, index)
    return tail_of(style, library, index)


def newcomer(style, library, index, place):
    """A source that gives the source with this index a place when it comes, or None if no source does that."""
    check_styled_index(style, library, index)
    path = path_of(style, library[index])
    if not is_integer_from(place, 0) or place >= len(path):
        raise InvalidNumber()
    now = max(needs_of(path, library, index))
    if place < now:
        return None
    if place == now:
        return of_another_year(library, index)
    # It is new to the library: the label ahead of this place fits no other source that is there already.
    return outside(path[place - 1], path[place])


def of_another_year(library, index):
    """The source with this index as of a year of which the library has no source: no label there fits it."""
    people, _, title = library[index]
    years = [source[1] for source in library]
    free = [year for year in range(len(library) + 1) if year not in years]
    return (people, free[0], title)
