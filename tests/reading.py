"""A word-by-word reading of [6] to [13] without the program; tests compare the program with it."""

import functools
import itertools
import string

WORDS = ("names", "all", "first initial", "initials", "first given", "given", "title")


def all_steps():
    """All tuples of different words for steps."""
    return [steps for many in range(len(WORDS) + 1) for steps in itertools.permutations(WORDS, many)]


@functools.lru_cache(maxsize=None)
def fits(label, source):
    """[6]"""
    shown, more, year, title, _ = label
    people, source_year, source_title = source
    if year != source_year or title not in (None, source_title):
        return False
    if len(people) <= len(shown) if more else len(people) != len(shown):
        return False
    for index, (family, part) in enumerate(shown):
        given = people[index][1]
        if family != people[index][0] or part not in ("", given[0] + ".", given):
            return False
    return True


def states(style, people):
    """[8] and [9]"""
    most, kept, steps = style
    k = people if people <= most else kept
    first, rest, title = 0, 0, False
    found = [(k, first, rest, title)]
    for step in steps:
        if step == "names":
            while k < people:
                k += 1
                found.append((k, first, rest, title))
            continue
        if step == "all":
            k = people
        if step in ("first initial", "initials") and first < 1:
            first = 1
        if step == "initials" and rest < 1:
            rest = 1
        if step in ("first given", "given"):
            first = 2
        if step == "given":
            rest = 2
        if step == "title":
            title = True
        found.append((k, first, rest, title))
    return found


def label_in(state, source):
    """The label of a state of [8]"""
    k, first, rest, with_title = state
    people, year, title = source
    shown = []
    for index in range(k):
        family, given = people[index]
        shown.append((family, ["", given[0] + ".", given][rest if index else first]))
    return (tuple(shown), k < len(people), year, title if with_title else None, "")


@functools.lru_cache(maxsize=None)
def path(style, source):
    """[10], as a tuple"""
    found = []
    for state in states(style, len(source[0])):
        label = label_in(state, source)
        if not found or found[-1] != label:
            found.append(label)
    return tuple(found)


def need(style, source, other):
    """The need of [18]"""
    for index, label in enumerate(path(style, source)):
        if not fits(label, other):
            return index
    return None


def place(style, library, index):
    """The place of [11]"""
    for at, label in enumerate(path(style, library[index])):
        if [k for k in range(len(library)) if k != index and fits(label, library[k])] == []:
            return at
    return None


def places(style, library):
    return [place(style, library, index) for index in range(len(library))]


def rank(at):
    """A number for a place, so that None is greater than all."""
    return 10 ** 6 if at is None else at


def letters():
    """Go through the letters of [12]: first all of one letter, then all of two and so on."""
    for many in itertools.count(1):
        for signs in itertools.product(string.ascii_lowercase, repeat=many):
            yield "".join(signs)


def letter_groups(style, library):
    """The lists of [12]: the sources that share their last label and have no place."""
    found = []
    for index, source in enumerate(library):
        if place(style, library, index) is None and index not in sum(found, []):
            last = path(style, source)[-1]
            same = [k for k in range(len(library))
                    if place(style, library, k) is None and path(style, library[k])[-1] == last]
            found.append(sorted(same, key=lambda k: library[k]))
    return found


def labels(style, library):
    """The labels of [11] and [12]"""
    found = [path(style, library[k])[-1 if at is None else at] for k, at in enumerate(places(style, library))]
    for group in letter_groups(style, library):
        for index, word in zip(group, letters()):
            found[index] = found[index][:4] + (word,)
    return found


def changes(style, library, later, indexes):
    """The list of (index, old, new) where the source with indexes[k] in later is that with k in library."""
    old, new = labels(style, library), labels(style, later)
    return [(k, old[k], new[at]) for k, at in indexes if old[k] != new[at]]


def coming(style, library, sources):
    """The list of [22] for sources that come at once."""
    later = library + tuple([source for source in sources if source not in library])
    return changes(style, library, later, [(k, k) for k in range(len(library))])


def leaving(style, library, index):
    """The list of [22] for a source that goes."""
    later = tuple([source for k, source in enumerate(library) if k != index])
    return changes(style, library, later, [(k, later.index(library[k])) for k in range(len(library)) if k != index])
