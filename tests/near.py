"""Small libraries of sources that are near one another, and styles, for tests against a word-by-word reading."""

import itertools

import reading

PERSONS = (("a", "ab"), ("a", "ac"), ("a", "b"), ("b", "ab"))
BOUNDS = ((1, 1), (2, 1), (2, 2), (3, 1), (3, 2), (4, 1))

# Without names and all, last labels end with more; without title, they fit many sources.
STEPS = (
    (), ("names",), ("all",), ("title",), ("initials",), ("first initial",), ("first given",), ("given",),
    ("first given", "title"), ("initials", "given"), ("names", "given", "title"), ("given", "names"),
    ("title", "all", "initials"), ("first initial", "names", "initials"), ("initials", "all", "first given"),
    ("first given", "initials", "names", "title", "given", "all"), ("all", "names"), ("names", "all", "first given"),
)


def styles():
    """Each of the steps with two of the bounds."""
    found = [(*BOUNDS[k % len(BOUNDS)], steps) for k, steps in enumerate(STEPS)]
    return found + [(*BOUNDS[(k * 5 + 3) % len(BOUNDS)], steps) for k, steps in enumerate(STEPS)]


def sources(most):
    """All sources by at most so many of the persons, with two titles."""
    people = [told for many in range(1, most + 1) for told in itertools.product(PERSONS, repeat=many)]
    return list(itertools.product(people, (3,), ("t", "u")))


def pool():
    """Few sources by one to five people that differ in a title, a given name, a person or the year."""
    one, two, three, four = PERSONS
    people = [
        (one,), (two,), (one, one), (one, two), (one, three), (one, one, one), (one, one, four), (one, one, one, one),
        (one, two, one, one), (one, one, one, one, one),
    ]
    return [(told, 3, "t") for told in people] + [
        ((one,), 3, "u"), ((one, one), 3, "u"), ((one, one, one), 3, "u"), ((one, one, one, one), 3, "u"),
        ((one,), 4, "t"),
    ]


def libraries():
    """All libraries of at most two sources of the pool, many of three, and some of four to seven."""
    known = pool()
    found = [library for many in range(3) for library in itertools.combinations(known, many)]
    found += list(itertools.combinations(known, 3))[::7]
    for many in range(4, 8):
        found += list(itertools.combinations(known, many))[many::397]
    # Letters follow the order of the sources, all else that of the library: let both differ.
    return [library[k % 3:] + library[:k % 3] if k % 2 else library[::-1] for k, library in enumerate(found)]


def cases():
    """Pairs of a style and a library: each library with some of the styles."""
    known = styles()
    return [(known[(k * 7 + more * 11) % len(known)], library)
            for k, library in enumerate(libraries()) for more in range(6)]


def around(source):
    """Sources that differ from a source, or not, in each person, in their number and in the title."""
    people, year, title = source
    choices = [[(family, given), (family, given + "x"), (family, "z" + given), (family + "x", given)]
               for family, given in people]
    found = []
    for many in range(1, len(people) + 1):
        found += list(itertools.product(*choices[:many]))
    found += [told + (("q", "q"),) * more for told in itertools.product(*choices) for more in (1, 2)]
    return [(told, year, name) for told in found for name in (title, title + "x")]


def strangers(source):
    """Other sources, fewer than those around, that differ in the first given name, in all others, in the last families.
    """
    people, year, title = source
    changes = (lambda given: given, lambda given: given + "x", lambda given: "z" + given)
    found = []
    for many in range(max(len(people) - 1, 1), len(people) + 2):
        known = (people + people[-1:])[:many]
        for same, first, rest in itertools.product(range(many + 1), changes, changes):
            told = [(family if k < same else family + "x", (rest if k else first)(given))
                    for k, (family, given) in enumerate(known)]
            found += [(tuple(told), year, name) for name in (title, title + "x")]
    return [other for other in dict.fromkeys(found) if other != source]


def large_library(many=40):
    """Sources with eight people that differ only in the given name of the last one, in its initial or in the title."""
    ahead = tuple([("smith", "jo")] * 7)
    people = [ahead + (("smith", given),) for given in ("jo", "jon", "ann", "a" * 12)]
    return tuple([(people[k % 4], 10 ** 39, "on " + "ab"[k // 4 % 2] * (k // 8 + 1)) for k in range(many)])


LARGE_STYLES = tuple([(12, 1, reading.WORDS), (1, 1, reading.WORDS), (1, 1, ()), (12, 12, ("title",))])
