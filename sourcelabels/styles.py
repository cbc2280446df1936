"""Styles, their states, and the paths of sources by them."""

from sourcelabels.basics import is_integer_from
from sourcelabels.errors import InvalidNumber, InvalidStyle
from sourcelabels.sources import check_source

WORDS = ("names", "all", "first initial", "initials", "first given", "given", "title")

# The least values that a step gives to first and to rest: 1 for the initial, 2 for the given name.
LEVELS = {"first initial": (1, 0), "initials": (1, 1), "first given": (2, 0), "given": (2, 2)}


def is_style(value):
    """Whether any value is a style."""
    if not isinstance(value, tuple) or len(value) != 3:
        return False
    most, kept, steps = value
    if not is_integer_from(most, 1) or not is_integer_from(kept, 1):
        return False
    return kept <= most and is_steps(steps)


def is_steps(value):
    """Whether any value is a tuple of different words for steps."""
    if not isinstance(value, tuple) or not all([is_step(word) for word in value]):
        return False
    return len(set(value)) == len(value)


def is_step(value):
    """Whether any value is a word for a step."""
    return isinstance(value, str) and value in WORDS


def check_style(value):
    """Raise InvalidStyle for any value that is no style."""
    if not is_style(value):
        raise InvalidStyle()


def states(style, people):
    """The list of all states for a source with so many people, the first one first."""
    check_style(style)
    if not is_integer_from(people, 1):
        raise InvalidNumber()
    return states_for(style, people)


def path(style, source):
    """The path of a source by a style."""
    check_style(style)
    check_source(source)
    return path_of(style, source)


def states_for(style, people):
    """States, for a style and a number of people that are known to be right."""
    most, kept, steps = style
    found = [(people if people <= most else kept, 0, 0, False)]
    for word in steps:
        found = found + states_behind(found[-1], word, people)
    return found


def states_behind(state, word, people):
    """The list of the new states that a step makes behind a state."""
    many, first, rest, title = state
    if word == "names":
        return [(more, first, rest, title) for more in range(many + 1, people + 1)]
    if word == "all":
        return [(people, first, rest, title)]
    if word == "title":
        return [(many, first, rest, True)]
    least_first, least_rest = LEVELS[word]
    return [(many, max(first, least_first), max(rest, least_rest), title)]


def path_of(style, source):
    """Path, for a style and a source that are known to be right."""
    found = []
    for state in states_for(style, len(source[0])):
        label = label_by(state, source)
        # Labels only ever say more from state to state, so equal ones are neighbours.
        if label not in found[-1:]:
            found.append(label)
    return found


def label_by(state, source):
    """The label of a source in a state, without letters."""
    many, first, rest, with_title = state
    people, year, title = source
    levels = [first] + [rest] * (many - 1)
    shown = [(person[0], part_by(level, person[1])) for person, level in zip(people, levels)]
    return (tuple(shown), many < len(people), year, title if with_title else None, "")


def part_by(level, given):
    """How a given name is shown: not at all for the level 0, by its initial for 1, as it is for 2."""
    if level == 0:
        return ""
    return given[0] + "." if level == 1 else given
