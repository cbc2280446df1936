"""Values that several tests use."""

TIDES = ((("smith", "jo"), ("brown", "ann")), 2020, "on tides")
WAVES = ((("smith", "al"), ("brown", "ann"), ("king", "bo")), 2020, "on waves")
WIND = ((("smith", "jo"),), 2020, "on wind")
RAIN = ((("lee", "may"), ("smith", "jo")), 1999, "on rain")
LIBRARY = (TIDES, WAVES, WIND, RAIN)

ONE = ((("smith", ""),), True, 2020, None, "")
TWO = ((("smith", "j."), ("brown", "")), True, 2020, None, "")

STYLE = (2, 1, ("names", "first initial", "title"))

# The library of the example of section 5.
THREE = ((("smith", "jo"), ("brown", "ann"), ("lee", "may")), 2020, "on tides")
LATER = ((("smith", "jo"),), 2021, "on rain")
SHELF = (THREE, WAVES, WIND, LATER)

NUMBERS = (0, 1, 25, 26, 2020, 10 ** 39, 10 ** 40 - 1)


class EqualToAll:
    """A value that claims to be equal to any other one."""

    def __eq__(self, other):
        return True

    def __hash__(self):
        return 0


# Values that are neither a number from 0 on, nor letters, nor a tuple of anything that the package knows.
STRANGE = (
    None, True, False, -1, -10 ** 39, 0.0, 1.5, float("nan"), 2j, "A", "a b-", "\u00e4", "\u0661", b"a", b"",
    [], ["a"], {}, {"a": 1}, set(), frozenset(), object(), int, len, range(3), iter([]), (None,), ((),), (((),),),
    EqualToAll(), (EqualToAll(),),
)


def replaced(values, index, value):
    """A copy of a tuple with another value at an index."""
    return values[:index] + (value,) + values[index + 1:]


def spoiled_people():
    """Values that are no tuples of persons, each with one wrong part."""
    return [
        (),
        [("smith", "jo")],
        ("smith", "jo"),
        (["smith", "jo"],),
        (("smith",),),
        (("smith", "jo", "x"),),
        (("", "jo"),),
        (("smith", ""),),
        (("smith", "j."),),
        (("Smith", "jo"),),
        (("smith", "jo "),),
        (("smith", "jo1"),),
        (("smith", "j\u00f6"),),
        (("smith", "jo\n"),),
        (("a" * 13, "jo"),),
        (("smith", "a" * 13),),
        (("smith", None),),
        ((b"smith", "jo"),),
        (("smith", "jo"), ("brown", "")),
        (("smith", "jo"), None),
        "smith",
        None,
    ]


def spoiled_years():
    """Values that are no integers from 0 on."""
    return [-1, True, False, None, "2020", 2020.0, (2020,), -10 ** 39]


def spoiled_titles():
    """Values that are no titles."""
    return [
        "", " ", " a", "a ", "a  b", "a\tb", "a\n", "A", "a.", "a-b", "a1", "\u00e4", "a\u00a0b", "a" * 41,
        "a " * 20 + "b", b"a", 1, True, ("a",), ["a"],
    ]


def spoiled_sources():
    """Values that are no sources, each with one wrong part."""
    people = [replaced(TIDES, 0, value) for value in spoiled_people()]
    years = [replaced(TIDES, 1, value) for value in spoiled_years()]
    titles = [replaced(TIDES, 2, value) for value in spoiled_titles() + [None]]
    shapes = [TIDES[:2], TIDES + ("",), list(TIDES), (), TIDES[0], "on tides", (TIDES,)]
    return people + years + titles + shapes


def spoiled_libraries():
    """Values that are no libraries, each with one wrong part."""
    parts = [(WIND, value) for value in spoiled_sources()]
    return parts + [list(LIBRARY), [], WIND, (WIND, WIND), (WIND, RAIN, WIND), {WIND: 1}, "", (LIBRARY,)]


def spoiled_labels():
    """Values that are no labels, each with one wrong part."""
    shown = [
        (), [("smith", "")], ("smith", ""), (["smith", ""],), (("smith",),), (("smith", "", ""),), (("", ""),),
        (("Smith", ""),), (("a" * 13, ""),), (("smith", "j"), ("brown", None)), (("smith", "."),), (("smith", "J."),),
        (("smith", "jo."),), (("smith", "j.."),), (("smith", ".j"),), (("smith", "j "),), (("smith", " "),),
        (("smith", "1."),), (("smith", "\u00e4."),), (("smith", "a" * 13),), (("smith", b""),), (("smith", False),),
        (("s.", ""),), "smith", None,
    ]
    spoiled = [replaced(ONE, 0, value) for value in shown]
    spoiled += [replaced(ONE, 1, value) for value in (0, 1, None, "", "et al.", (True,), 1.0)]
    spoiled += [replaced(ONE, 2, value) for value in spoiled_years()]
    spoiled += [replaced(ONE, 3, value) for value in spoiled_titles()]
    spoiled += [replaced(ONE, 4, value) for value in (None, "A", "a b", " ", "1", "\u00e4", b"a", 0, ("a",), ["a"])]
    return spoiled + [ONE[:4], ONE + ("",), list(ONE), (), ONE[0], TIDES, (ONE,), "smith 2020"]


def spoiled_styles():
    """Values that are no styles, each with one wrong part."""
    spoiled = [replaced(STYLE, 0, value) for value in (0, -1, True, False, None, "2", 2.0, (2,), [2], -10 ** 39)]
    spoiled += [replaced(STYLE, 1, value) for value in (0, -1, 3, True, False, None, "1", 1.0, (1,), 10 ** 39)]
    steps = [
        [], ["names"], "names", "", None, 0, {}, {"names"}, {"names": 1}, ("names", "names"), ("all", "title", "all"),
        ("Names",), ("name",), ("names ",), ("",), (" ",), ("first",), ("firstinitial",), ("first  initial",),
        ("initial",), ("et al.",), (None,), (1,), (True,), (b"names",), (("names",),), (["names"],), ({},),
        ("names", "title", None), ("names", "x", "title"), (EqualToAll(),),
    ]
    spoiled += [replaced(STYLE, 2, value) for value in steps]
    return spoiled + [STYLE[:2], STYLE + ((),), list(STYLE), (), (STYLE,), (1,), STYLE[2], TIDES, "most 2, kept 1"]


def spoiled_indexes(library):
    """Values that are no indexes of a source of a library."""
    many = len(library)
    return [-1, -many - 1, many, many + 1, 10 ** 39, True, False, None, "0", 0.0, (0,), [0], {}, library[:1], 2j]
