"""What several parts work out alike: paths, needs, places and letters of a library that is known to be one.

A need and a place are kept as numbers here: the length of the path stands for None, so that it is greater than all
others.
"""

from sourcelabels.labels import full_label, is_within
from sourcelabels.letters import letters_of
from sourcelabels.sources import check_index, check_library
from sourcelabels.styles import check_style, path_of


def check_styled(style, library):
    """Raise the error for a value that is no style, or else for one that is no library."""
    check_style(style)
    check_library(library)


def check_styled_index(style, library, index):
    """Raise the error for the first of these three that is not what it has to be."""
    check_styled(style, library)
    check_index(library, index)


def paths_of(style, library):
    """The list of the paths of all sources."""
    return [path_of(style, source) for source in library]


def need_in(path, other):
    """The least index of a label of a path that does not fit another source, or the length of the path."""
    told = full_label(other)
    for index, label in enumerate(path):
        if not is_within(told, label):
            return index
    return len(path)


def needs_of(path, library, index):
    """The list of the needs of the source with this index against each source; 0 against itself."""
    return [0 if k == index else need_in(path, other) for k, other in enumerate(library)]


def needs_table(paths, library):
    """The list of the lists of needs of all sources."""
    return [needs_of(path, library, index) for index, path in enumerate(paths)]


def places_of(paths, library):
    """The list of the places of all sources."""
    return [max(needs) for needs in needs_table(paths, library)]


def tail_of(style, library, index):
    """The list of the labels of the source with this index from its place on; for the place None, the last one."""
    path = path_of(style, library[index])
    place = max(needs_of(path, library, index))
    return path[min(place, len(path) - 1):]


def or_none(number, path):
    """A need or a place as it is told: None instead of the length of the path."""
    return None if number == len(path) else number


def groups_at(paths, library, places):
    """The list of the lists of indexes of sources without a place and with the same last label.

    Each list is in the order of the sources, which is that of the letters; the lists are by their least indexes.
    """
    groups = {}
    for index, path in enumerate(paths):
        if places[index] == len(path):
            groups.setdefault(path[-1], []).append(index)
    return [in_order(group, library) for group in groups.values()]


def in_order(indexes, library):
    """The list of the indexes in the order of their sources."""
    pairs = sorted([(library[index], index) for index in indexes])
    return [index for _, index in pairs]


def labels_at(paths, library, places):
    """The list of the labels of all sources by their paths and places."""
    found = [path[min(place, len(path) - 1)] for path, place in zip(paths, places)]
    for group in groups_at(paths, library, places):
        for number, index in enumerate(group):
            found[index] = lettered(found[index], letters_of(number))
    return found


def lettered(label, letters):
    """A label with other letters."""
    shown, more, year, title, _ = label
    return (shown, more, year, title, letters)


def labels_of(style, library):
    """The list of the labels of all sources."""
    paths = paths_of(style, library)
    return labels_at(paths, library, places_of(paths, library))
