"""Sources that share their last or their first label, and how many can do without."""

from sourcelabels.labels import full_label, is_within
from sourcelabels.places import check_styled, groups_at, paths_of, places_of


def letter_groups(style, library):
    """The list of the lists of the indexes of sources that share their last label and have letters."""
    check_styled(style, library)
    paths = paths_of(style, library)
    return groups_at(paths, library, places_of(paths, library))


def without_letters(style, library):
    """An ascending list of indexes of as many sources as possible that have no letters by themselves."""
    check_styled(style, library)
    return most_apart(library, [path[-1] for path in paths_of(style, library)])


def plain(style, library):
    """An ascending list of indexes of as many sources as possible that all have the place 0 by themselves."""
    check_styled(style, library)
    return most_apart(library, [path[0] for path in paths_of(style, library)])


def most_apart(library, told):
    """An ascending list of indexes of as many sources as possible, of which none is fitted by another one's label.

    told is the list of the first or of the last labels of the paths of all sources.
    """
    # Of sources with equal labels only one can stay. A label that holds others stands against all of them, and they
    # hold nothing further: its own source would take the place of one source or more, so it is left out.
    chosen = {}
    for index, label in enumerate(told):
        if label not in chosen and not holds_others(label, library, told):
            chosen[label] = index
    return list(chosen.values())


def holds_others(label, library, told):
    """Whether a label fits a source that has another label."""
    return any([is_within(full_label(source), label) and told[k] != label for k, source in enumerate(library)])
