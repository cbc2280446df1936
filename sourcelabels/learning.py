"""Which styles give the sources of a library the labels of a list."""

from sourcelabels.basics import is_integer_from
from sourcelabels.errors import InvalidNumber, InvalidTold
from sourcelabels.labels import full_label, is_label, is_within
from sourcelabels.letters import letters_of
from sourcelabels.places import check_styled, in_order, labels_of, lettered
from sourcelabels.shapes import holds_any, states_of
from sourcelabels.sources import check_library
from sourcelabels.styles import WORDS, label_by, states_behind, states_for

# What a state can be on the way to the label that is told: the label is had, the state may be the last one, or it has
# to go on. All other states lead astray.
HAD = 1
LAST = 2
ON = 3


def gives(style, library, told):
    """Whether a style gives the sources of a library the labels of a list, in their order."""
    check_styled(style, library)
    check_told(library, told)
    return labels_of(style, library) == told


def styles_for(library, told, most):
    """Yield all styles with at most this most that give the labels of a list."""
    check_search(library, told, most)
    if are_letters_right(library, told):
        guides = [guide_of(library, index, label) for index, label in enumerate(told)]
        for bound in range(1, most + 1):
            for kept in range(1, bound + 1):
                yield from styles_along(guides, bound, kept)


def first_style(library, told, most):
    """The first style with at most this most that gives the labels of a list, or None."""
    for style in styles_for(library, told, most):
        return style
    return None


def count_styles(library, told, most):
    """How many styles with at most this most give the labels of a list."""
    return len(list(styles_for(library, told, most)))


def check_told(library, value):
    """Raise InvalidTold for any value that is no list of labels as long as the library."""
    if not isinstance(value, list) or len(value) != len(library) or not all([is_label(label) for label in value]):
        raise InvalidTold()


def check_search(library, told, most):
    """Raise the error for the first of these three that is not what it has to be."""
    check_library(library)
    check_told(library, told)
    if not is_integer_from(most, 1):
        raise InvalidNumber()


def are_letters_right(library, told):
    """Whether labels that differ in their letters alone have those that the order of their sources asks for."""
    groups = {}
    for index, label in enumerate(told):
        if label[4] != "":
            groups.setdefault(lettered(label, ""), []).append(index)
    asked = [(index, letters_of(number)) for group in groups.values()
             for number, index in enumerate(in_order(group, library))]
    return all([told[index][4] == letters for index, letters in asked])


def guide_of(library, index, label):
    """What the search has to know of a source: its number of people, and what each state is that does not lead astray.
    """
    others = [full_label(source) for k, source in enumerate(library) if k != index]
    source = library[index]
    marks = {state: mark_of(label_by(state, source), others, label) for state in states_of(source)}
    return (len(source[0]), {state: mark for state, mark in marks.items() if mark is not None})


def mark_of(label, others, told):
    """What a state with this label is on the way to the label that is told, or None if it leads astray."""
    wanted = lettered(told, "")
    is_shared = holds_any(label, others)
    if label == wanted:
        has_letters = told != wanted
        # Letters are for labels that fit another source, too, and only for these.
        if is_shared != has_letters:
            return None
        return LAST if has_letters else HAD
    return ON if is_shared and is_within(wanted, label) else None


def styles_along(guides, most, kept):
    """Yield the styles with these bounds on which the search comes to an end, fewer steps first."""
    ways = first_ways(guides, most, kept)
    while ways != []:
        for steps, states in ways:
            if is_end(guides, states):
                yield (most, kept, steps)
        ways = ways_behind(guides, ways)


def first_ways(guides, most, kept):
    """The list of the one way without steps, or of none if a first label leads astray.

    A way is a tuple (steps, states): the steps so far, and the state in which each source is for the next one.
    """
    states = [states_for((most, kept, ()), people)[0] for people, _ in guides]
    is_good = all([state in marks for state, (_, marks) in zip(states, guides)])
    return [((), states)] if is_good else []


def ways_behind(guides, ways):
    """The list of the ways with one more step that do not lead astray, in their order."""
    found = []
    for steps, states in ways:
        for word in WORDS:
            if word not in steps:
                moved = [moved_by(guide, state, word) for guide, state in zip(guides, states)]
                if None not in moved:
                    found.append((steps + (word,), moved))
    return found


def moved_by(guide, state, word):
    """The state of a source behind one more step, or None if the step leads astray."""
    people, marks = guide
    for new in states_behind(state, word, people):
        # A source that has its label keeps it, whatever comes.
        if marks[state] == HAD:
            return state
        if new not in marks:
            return None
        state = new
    return state


def is_end(guides, states):
    """Whether all sources have their labels if no step comes any more."""
    return all([marks[state] != ON for state, (_, marks) in zip(states, guides)])
