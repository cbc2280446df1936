"""Names, persons, titles, sources and libraries."""

from sourcelabels.basics import is_integer_from, is_letters
from sourcelabels.errors import InvalidIndex, InvalidLibrary, InvalidName, InvalidSource

LONGEST_NAME = 12
LONGEST_TITLE = 40


def is_name(value):
    """Whether any value is a name."""
    return is_letters(value) and 1 <= len(value) <= LONGEST_NAME


def is_person(value):
    """Whether any value is a person: a tuple of a family name and a given name."""
    return isinstance(value, tuple) and len(value) == 2 and all([is_name(name) for name in value])


def is_title(value):
    """Whether any value is a title."""
    if not isinstance(value, str) or len(value) > LONGEST_TITLE:
        return False
    # A space at an end or beside another one leaves an empty word.
    return all([word != "" and is_letters(word) for word in value.split(" ")])


def is_source(value):
    """Whether any value is a source."""
    if not isinstance(value, tuple) or len(value) != 3:
        return False
    people, year, title = value
    return is_people(people) and is_integer_from(year, 0) and is_title(title)


def is_people(value):
    """Whether any value is a non-empty tuple of persons."""
    return isinstance(value, tuple) and len(value) > 0 and all([is_person(person) for person in value])


def is_library(value):
    """Whether any value is a library."""
    if not isinstance(value, tuple):
        return False
    return all([is_source(source) for source in value]) and len(set(value)) == len(value)


def check_source(value):
    """Raise InvalidSource for any value that is no source."""
    if not is_source(value):
        raise InvalidSource()


def check_library(value):
    """Raise InvalidLibrary for any value that is no library."""
    if not is_library(value):
        raise InvalidLibrary()


def check_index(library, value):
    """Raise InvalidIndex for any value that is no index of a source of a library."""
    if not is_integer_from(value, 0) or value >= len(library):
        raise InvalidIndex()


def sorted_library(library):
    """The library with its sources ascending."""
    check_library(library)
    return tuple(sorted(library))


def places_by_name(library, family):
    """The ascending list of the indexes of the sources of which a person has this family."""
    check_library(library)
    if not is_name(family):
        raise InvalidName()
    return [index for index, source in enumerate(library) if family in families(source)]


def families(source):
    """The list of the family names of the people of a source."""
    return [person[0] for person in source[0]]


def years_of(library):
    """The list of tuples (year, many), years ascending, with the number of sources of each year."""
    check_library(library)
    many = {}
    for source in library:
        year = source[1]
        many[year] = many.get(year, 0) + 1
    return [(year, many[year]) for year in sorted(many)]
