"""Whether two styles give the same labels, and which one says more.

What a path shows depends on the number of people alone, so one source for each number of people tells about all.
Beside it stands at most one other source, which fits a label of the path and differs in all that this does not say:
whatever else fits this label, fits at least those labels of the path that this one fits.
"""

from sourcelabels.basics import is_integer_from
from sourcelabels.errors import InvalidNumber
from sourcelabels.labels import is_within
from sourcelabels.places import check_styled, need_in, tail_of
from sourcelabels.styles import check_style, path_of

# How the given name of the sample is shown, and another given name that is shown alike.
UNLIKE = {"": "b", "a.": "ab", "aa": "aa"}


def alike(style, other, people=None):
    """Whether two styles give the same labels for all libraries of sources with at most so many people."""
    check_two(style, other, people)
    return numbers_apart(style, other, people) == []


def difference(style, other, people=None):
    """A library with as few sources as possible for which two styles give other labels, or None."""
    check_two(style, other, people)
    return smallest([library_apart(style, other, many) for many in numbers_apart(style, other, people)])


def idle_steps(style, people=None):
    """The ascending list of the indexes of the steps each of which can be left out alone."""
    check_one(style, people)
    return [index for index in range(len(style[2])) if is_idle(style, index, people)]


def trimmed(style, people=None):
    """The style without the steps that can be left out, tried from the last one to the first one."""
    check_one(style, people)
    left = style
    for index in reversed(range(len(style[2]))):
        if is_idle(left, index, people):
            left = without_step(left, index)
    return left


def least_apart(style, other):
    """The least number of people for which two styles are not alike, or None if they are alike."""
    check_two(style, other, None)
    return min(numbers_apart(style, other, None), default=None)


def never_longer(style, other, people=None):
    """Whether each label by style says at most as much as that of the same source by other."""
    return longer_library(style, other, people) is None


def longer_library(style, other, people=None):
    """A library with as few sources as possible in which a label by style does not say at most as much, or None."""
    check_two(style, other, people)
    found = []
    for many in numbers_of(style, other, people):
        found.extend(longer_libraries(style, other, many))
    return smallest(found)


def alike_behind(style, other, library):
    """Whether the sources of a library have the same labels but for the letters, also when sources have come."""
    check_style(style)
    check_styled(other, library)
    return all([tail_of(style, library, index) == tail_of(other, library, index) for index in range(len(library))])


def check_one(style, people):
    """Raise the error for a value that is no style, or else for one that is no greatest number of people."""
    check_style(style)
    if people is not None and not is_integer_from(people, 1):
        raise InvalidNumber()


def check_two(style, other, people):
    """Raise the error for the first of these three that is not what it has to be."""
    check_style(style)
    check_one(other, people)


def numbers_of(style, other, people):
    """The list of the numbers of people from 1 on that can tell two styles apart, up to a greatest one or None."""
    # With two people more than most and kept say, names shows a label that all leaves out. More people than that
    # add only labels of the same kind.
    last = max(style[0], other[0]) + 2
    return list(range(1, (last if people is None else min(people, last)) + 1))


def numbers_apart(style, other, people):
    """The ascending list of the numbers of people for which the paths are not the same."""
    return [many for many in numbers_of(style, other, people) if sample_path(style, many) != sample_path(other, many)]


def is_idle(style, index, people):
    """Whether the step with this index can be left out."""
    return numbers_apart(style, without_step(style, index), people) == []


def without_step(style, index):
    """A style without the step with this index."""
    most, kept, steps = style
    return (most, kept, steps[:index] + steps[index + 1:])


def smallest(libraries):
    """One of the libraries with the fewest sources, or None if there is no library."""
    return min(libraries, key=len, default=None)


def sample(many):
    """A source with so many people."""
    return ((("a", "aa"),) * many, 0, "a")


def sample_path(style, many):
    """The path of the sample with so many people."""
    return path_of(style, sample(many))


def stranger(label, many):
    """A source with so many people that a label of the sample fits, and that differs from it in all else."""
    shown, _, year, title, _ = label
    people = [(family, UNLIKE[part]) for family, part in shown]
    unseen = [("b", "b")] * (many - len(shown))
    return (tuple(people + unseen), year, "b" if title is None else title)


def library_apart(style, other, many):
    """A library with as few sources as possible, of so many people, where the paths are not the same."""
    path, other_path = sample_path(style, many), sample_path(other, many)
    unlike = [index for index, (label, met) in enumerate(zip(path, other_path)) if label != met]
    same = (unlike + [min(len(path), len(other_path))])[0]
    if same == 0:
        return (sample(many),)
    # Neither of the next labels fits this stranger, so that both are given; or one path ends, and letters come.
    return (sample(many), stranger(path[same - 1], many))


def longer_libraries(style, other, many):
    """The list of libraries of the sample and at most one stranger where the label by style says too much.

    The stranger is the one that gives the label and lets the other style say as little as it can.
    """
    path, other_path = sample_path(style, many), sample_path(other, many)
    found = [] if is_within(other_path[0], path[0]) else [(sample(many),)]
    for ahead, label in zip(path, path[1:]):
        guest = stranger(ahead, many)
        place = min(need_in(other_path, guest), len(other_path) - 1)
        if not is_within(other_path[place], label):
            found.append((sample(many), guest))
    return found
