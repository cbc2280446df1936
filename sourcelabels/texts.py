"""Labels, sources, styles and libraries as texts, and back.

A text is read loosely, part by part: only what is written back as the very same text was one.
"""

from sourcelabels.basics import ALPHABET
from sourcelabels.errors import InvalidText
from sourcelabels.labels import check_label, is_label
from sourcelabels.sources import check_library, check_source, is_library, is_source
from sourcelabels.styles import check_style, is_style

ET_AL = " et al."
MOST = "most "
KEPT = "kept "

# What stands for a number where there is none: no label, source or style has it.
NO_NUMBER = -1


def format_label(label):
    """The text of a label."""
    check_label(label)
    shown, more, year, title, letters = label
    pairs = ", ".join([pair_text(pair) for pair in shown])
    behind = "" if title is None else f' "{title}"'
    return f"{pairs}{ET_AL if more else ''} {year}{letters}{behind}"


def pair_text(pair):
    """The text of a pair (family, part) of a label."""
    family, part = pair
    return family if part == "" else f"{part} {family}"


def format_source(source):
    """The text of a source."""
    check_source(source)
    people, year, title = source
    told = ", ".join([f"{family} {given}" for family, given in people])
    return f"{told}; {year}; {title}"


def format_style(style):
    """The text of a style."""
    check_style(style)
    most, kept, steps = style
    bounds = f"{MOST}{most}, {KEPT}{kept}"
    return bounds if steps == () else f"{bounds}: {', '.join(steps)}"


def format_library(library):
    """The list of the texts of the sources of a library."""
    check_library(library)
    return [format_source(source) for source in library]


def parse_label(text):
    """The label of a text."""
    check_text(text)
    label = read_label(text)
    if not is_label(label) or format_label(label) != text:
        raise InvalidText()
    return label


def parse_source(text):
    """The source of a text."""
    check_text(text)
    source = read_source(text)
    if not is_source(source) or format_source(source) != text:
        raise InvalidText()
    return source


def parse_style(text):
    """The style of a text."""
    check_text(text)
    style = read_style(text)
    if not is_style(style) or format_style(style) != text:
        raise InvalidText()
    return style


def parse_library(lines):
    """The library of a list of texts of sources."""
    if not isinstance(lines, list):
        raise InvalidText()
    library = tuple([parse_source(line) for line in lines])
    if not is_library(library):
        raise InvalidText()
    return library


def check_text(value):
    """Raise InvalidText for any value that is no string."""
    if not isinstance(value, str):
        raise InvalidText()


def read_label(text):
    """What a text says, taken as a label; for other texts it may be anything."""
    told, quote, title = text.partition(' "')
    names, _, ending = told.rpartition(" ")
    digits = ending.rstrip(ALPHABET)
    letters = ending[len(digits):]
    shown = [read_pair(part) for part in names.removesuffix(ET_AL).split(", ")]
    # The title still has the quote behind it.
    return (tuple(shown), names.endswith(ET_AL), read_number(digits), title[:-1] if quote else None, letters)


def read_pair(text):
    """What a text says, taken as a pair (family, part)."""
    part, _, family = text.rpartition(" ")
    return (family, part)


def read_source(text):
    """What a text says, taken as a source; for other texts it may be anything."""
    told, _, ending = text.partition("; ")
    year, _, title = ending.partition("; ")
    people = [tuple(person.split(" ")) for person in told.split(", ")]
    return (tuple(people), read_number(year), title)


def read_style(text):
    """What a text says, taken as a style; for other texts it may be anything."""
    bounds, colon, told = text.partition(": ")
    most, _, kept = bounds.partition(", ")
    steps = tuple(told.split(", ")) if colon else ()
    return (read_number(most.removeprefix(MOST)), read_number(kept.removeprefix(KEPT)), steps)


def read_number(text):
    """The number that a text of digits says."""
    # Not isdigit: it also takes signs beyond 0 to 9.
    if text == "" or not all(["0" <= sign <= "9" for sign in text]):
        return NO_NUMBER
    return int(text)
