import itertools
import unittest

import near
import reading
import samples
from samples import LATER, SHELF, STRANGE, STYLE, THREE, TIDES, WAVES, WIND, replaced
from sourcelabels.changes import can_become, coming, is_quiet, joining, leaving, newcomer, settled
from sourcelabels.errors import (
    InvalidIndex, InvalidLibrary, InvalidNumber, InvalidSource, InvalidStyle, SameSource,
)
from sourcelabels.labels import full_label, outside
from sourcelabels.needs import label_of, labels, place_of
from sourcelabels.sources import is_source
from sourcelabels.styles import path

WRONG_STYLES = list(STRANGE) + samples.spoiled_styles()
WRONG_LIBRARIES = list(STRANGE) + samples.spoiled_libraries()
WRONG_SOURCES = list(STRANGE) + samples.spoiled_sources()

BARE = (1, 1, ("initials",))
FULL = (2, 1, ("names", "given", "title"))
ON_A, ON_B, ON_C = [((("smith", "jo"),), 2020, title) for title in ("on a", "on b", "on c")]


def one(part, letters="", title=None, more=False):
    """The label of a source of 2020 with smith as the only shown person."""
    return ((("smith", part),), more, 2020, title, letters)


def variants(source):
    """Sources that differ from a source in the first given name, the others, the number of people, the title, the year.
    """
    people, year, title = source
    found = [(people, year + 1, title)]
    changes = (lambda given: given, lambda given: given + "x", lambda given: "x")
    for first, rest, many in itertools.product(changes, changes, range(1, len(people) + 3)):
        told = (people + people[-1:] * 2)[:many]
        told = ((told[0][0], first(told[0][1])),) + tuple([(family, rest(given)) for family, given in told[1:]])
        found += [(told, year, title), (told, year, title + "x")]
    return found


class Coming(unittest.TestCase):
    """coming and is_quiet of [22]."""

    def test_labels_that_change(self):
        king = ((("smith", ""), ("brown", ""), ("king", "")), False, 2020, None, "")
        self.assertEqual(coming(STYLE, (WAVES, WIND), THREE), [(0, one("", more=True), king)])
        self.assertEqual(coming(STYLE, SHELF, replaced(WIND, 0, (("smith", "al"),))), [(2, one(""), one("j."))])
        self.assertEqual(coming(STYLE, SHELF, replaced(WIND, 2, "on sand")),
                         [(2, one(""), one("j.", title="on wind"))])

    def test_letters_count(self):
        self.assertEqual(coming(BARE, (ON_C, WAVES, ON_B), ON_A),
                         [(0, one("j.", "b"), one("j.", "c")), (2, one("j.", "a"), one("j.", "b"))])
        self.assertEqual(coming(BARE, (ON_A, ON_B), ON_C), [])
        self.assertEqual(coming(BARE, (ON_A,), ON_B), [(0, one(""), one("j.", "a"))])

    def test_quiet_sources(self):
        self.assertIs(is_quiet(BARE, (ON_A, ON_B), ON_C), True)
        self.assertIs(is_quiet(BARE, (ON_A, ON_C), ON_B), False)
        self.assertIs(is_quiet(STYLE, SHELF, replaced(THREE, 1, 1999)), True)
        self.assertIs(is_quiet(STYLE, (WAVES,), THREE), False)
        self.assertIs(is_quiet(STYLE, (), THREE), True)

    def test_the_empty_library(self):
        self.assertEqual(coming(STYLE, (), TIDES), [])

    def test_word_by_word(self):
        for k, (style, library) in enumerate(near.cases()):
            for source in near.pool()[k % 4::4]:
                if source not in library:
                    expected = reading.coming(style, library, (source,))
                    self.assertEqual(coming(style, library, source), expected)
                    self.assertIs(is_quiet(style, library, source), expected == [])

    def test_sources_that_are_there_already(self):
        for function in (coming, is_quiet):
            for source in SHELF:
                self.assertRaises(SameSource, function, STYLE, SHELF, source)
            self.assertRaises(SameSource, function, STYLE, (WIND,), ((("smith", "jo"),), 2020, "on wind"))
            self.assertRaises(InvalidStyle, function, None, SHELF, WIND)

    def test_wrong_arguments(self):
        for function in (coming, is_quiet):
            for value in WRONG_STYLES:
                self.assertRaises(InvalidStyle, function, value, SHELF, TIDES)
            for value in WRONG_LIBRARIES:
                self.assertRaises(InvalidLibrary, function, STYLE, value, TIDES)
            for value in WRONG_SOURCES:
                self.assertRaises(InvalidSource, function, STYLE, SHELF, value)

    def test_the_order_of_the_errors(self):
        for function in (coming, is_quiet):
            self.assertRaises(InvalidStyle, function, None, None, None)
            self.assertRaises(InvalidStyle, function, None, SHELF, None)
            self.assertRaises(InvalidLibrary, function, STYLE, None, None)
            self.assertRaises(InvalidLibrary, function, STYLE, (WIND, WIND), WIND)


class Leaving(unittest.TestCase):
    """leaving of [22]."""

    def test_labels_that_change(self):
        lee = ((("smith", ""), ("brown", ""), ("lee", "")), False, 2020, None, "")
        king = ((("smith", ""), ("brown", ""), ("king", "")), False, 2020, None, "")
        self.assertEqual(leaving(STYLE, SHELF, 0), [(1, king, one("", more=True))])
        self.assertEqual(leaving(STYLE, SHELF, 1), [(0, lee, one("", more=True))])
        self.assertEqual(leaving(STYLE, SHELF, 2), [])

    def test_letters_count(self):
        library = (ON_C, ON_A, ON_B)
        self.assertEqual(leaving(BARE, library, 0), [])
        self.assertEqual(leaving(BARE, library, 1),
                         [(0, one("j.", "c"), one("j.", "b")), (2, one("j.", "b"), one("j.", "a"))])
        self.assertEqual(leaving(BARE, library, 2), [(0, one("j.", "c"), one("j.", "b"))])
        self.assertEqual(leaving(BARE, library[1:], 0), [(1, one("j.", "b"), one(""))])

    def test_the_only_source(self):
        self.assertEqual(leaving(STYLE, (TIDES,), 0), [])

    def test_word_by_word(self):
        for style, library in near.cases():
            for index in range(len(library)):
                self.assertEqual(leaving(style, library, index), reading.leaving(style, library, index))


class Joining(unittest.TestCase):
    """joining of [22]."""

    def test_one_source_comes(self):
        self.assertEqual(joining(STYLE, (WAVES, WIND), (THREE,)), coming(STYLE, (WAVES, WIND), THREE))

    def test_sources_come_at_once(self):
        al = replaced(WIND, 0, (("smith", "al"),))
        sand = replaced(WIND, 2, "on sand")
        self.assertEqual(joining(STYLE, SHELF, (al, sand)), [(2, one(""), one("j.", title="on wind"))])
        self.assertEqual(joining(BARE, (ON_B,), (ON_C, ON_A)), [(0, one(""), one("j.", "b"))])

    def test_sources_in_both_stay_once(self):
        self.assertEqual(joining(STYLE, SHELF, SHELF), [])
        self.assertEqual(joining(STYLE, SHELF, SHELF[::-1]), [])
        self.assertEqual(joining(BARE, (ON_B, ON_C), (ON_C, ON_A, ON_B)),
                         [(0, one("j.", "a"), one("j.", "b")), (1, one("j.", "b"), one("j.", "c"))])

    def test_empty_libraries(self):
        self.assertEqual([joining(STYLE, SHELF, ()), joining(STYLE, (), SHELF), joining(STYLE, (), ())], [[], [], []])

    def test_word_by_word(self):
        known = near.libraries()
        for k, (style, library) in enumerate(near.cases()):
            other = known[k * 31 % len(known)]
            self.assertEqual(joining(style, library, other), reading.coming(style, library, other))

    def test_wrong_arguments(self):
        for value in WRONG_STYLES:
            self.assertRaises(InvalidStyle, joining, value, SHELF, ())
        for value in WRONG_LIBRARIES:
            self.assertRaises(InvalidLibrary, joining, STYLE, value, SHELF)
            self.assertRaises(InvalidLibrary, joining, STYLE, SHELF, value)
        self.assertRaises(InvalidStyle, joining, None, None, None)


class Settled(unittest.TestCase):
    """settled of [23]."""

    def test_labels_that_say_all(self):
        library = (ON_A, TIDES, ON_B)
        self.assertEqual(settled((1, 1, ("given", "title")), library), [0, 2])
        self.assertEqual(settled((1, 1, ("title", "given")), library), [])
        self.assertEqual(settled((1, 1, ("title",)), library), [])

    def test_labels_with_letters_say_not_all(self):
        self.assertEqual(settled((1, 1, ("given",)), (ON_A, ON_B)), [])

    def test_all_people_have_to_be_shown(self):
        other = replaced(TIDES, 2, "on sand")
        self.assertEqual(settled((1, 1, ("given", "title")), (TIDES, other)), [])
        self.assertEqual(settled((2, 1, ("first given", "title")), (TIDES, other)), [])
        self.assertEqual(settled((2, 1, ("given", "title")), (TIDES, other)), [0, 1])

    def test_labels_that_could_say_all_but_need_not(self):
        self.assertEqual(settled(FULL, (ON_A, WAVES)), [])
        self.assertEqual(settled(FULL, ()), [])

    def test_word_by_word(self):
        for style, library in near.cases():
            expected = []
            for index, (shown, more, _, title, letters) in enumerate(reading.labels(style, library)):
                people = library[index][0]
                if letters == "" and not more and title is not None and shown == people:
                    expected.append(index)
            self.assertEqual(settled(style, library), expected)

    def test_they_never_change(self):
        known = near.pool()
        for style, library in near.cases()[::5]:
            later = library + tuple([source for source in known if source not in library])
            now, then = labels(style, library), labels(style, later)
            for index in settled(style, library):
                self.assertEqual(now[index], then[index])


class Becoming(unittest.TestCase):
    """can_become of [23], and [24]."""

    def test_labels_from_the_place_on(self):
        self.assertEqual(can_become(STYLE, SHELF, 0), path(STYLE, THREE)[2:])
        self.assertEqual(can_become(STYLE, SHELF, 2), path(STYLE, WIND))
        self.assertEqual(can_become((1, 1, ()), (WIND,), 0), [one("")])

    def test_the_last_label_for_no_place(self):
        self.assertEqual(can_become(BARE, (ON_A, ON_B), 0), [one("j.")])

    def test_the_last_label_for_the_last_place(self):
        style = (1, 1, ("given", "title"))
        self.assertEqual(can_become(style, (ON_A, ON_B), 1), [one("jo", title="on b")])

    def test_word_by_word(self):
        for style, library in near.cases():
            for index, source in enumerate(library):
                found, place = reading.path(style, source), reading.place(style, library, index)
                expected = found[-1:] if place is None else found[place:]
                self.assertEqual(can_become(style, library, index), list(expected))

    def test_these_labels_come_and_no_others(self):
        for style, library in near.cases()[::11]:
            for index in range(len(library)):
                found = []
                for source in variants(library[index]):
                    later = library + ((source,) if source not in library else ())
                    found.append(label_of(style, later, index)[:4] + ("",))
                self.assertEqual(set(found), set(can_become(style, library, index)))

    def test_letters_can_come_to_last_labels_that_do_not_say_all(self):
        for style in near.styles():
            for source in near.pool():
                last = path(style, source)[-1]
                other = outside(last, full_label(source))
                self.assertIs(other is None, last == full_label(source))
                if other is not None:
                    self.assertNotEqual(other, source)
                    self.assertEqual(label_of(style, (source, other), 0)[:4], last[:4])
                    self.assertIn(label_of(style, (source, other), 0)[4], ("a", "b"))


class Newcomers(unittest.TestCase):
    """newcomer of [23]."""

    def check(self, style, library, index, place):
        """The newcomer gives the place and is new."""
        source = newcomer(style, library, index, place)
        self.assertIs(is_source(source), True)
        self.assertNotIn(source, library)
        self.assertEqual(reading.place(style, library + (source,), index), place)

    def test_a_greater_place(self):
        for place in (1, 2):
            self.check(STYLE, (WIND,), 0, place)
            self.check(STYLE, SHELF, 2, place)
        self.check(STYLE, SHELF, 0, 3)

    def test_the_last_place(self):
        self.check(STYLE, SHELF, 0, 4)
        self.check(STYLE, (THREE,), 0, 4)
        self.check(FULL, (TIDES, WIND), 0, len(path(FULL, TIDES)) - 1)

    def test_the_present_place(self):
        self.check(STYLE, SHELF, 0, 2)
        self.check(STYLE, SHELF, 2, 0)
        self.check((1, 1, ()), (WIND,), 0, 0)
        for years in ((1, 0, 3, 10 ** 40 - 1), (2, 0, 3, 1), (4, 3, 2, 1), (2021, 2019, 2020, 2022)):
            library = tuple([replaced(WIND, 1, year) for year in years])
            for index in range(4):
                self.check(STYLE, library, index, 0)

    def test_a_lesser_place(self):
        self.assertIsNone(newcomer(STYLE, SHELF, 0, 0))
        self.assertIsNone(newcomer(STYLE, SHELF, 0, 1))

    def test_a_source_without_a_place(self):
        for place in (0, 1):
            self.assertIsNone(newcomer(BARE, (ON_A, ON_B), 0, place))
        self.assertRaises(InvalidNumber, newcomer, BARE, (ON_A, ON_B), 0, 2)

    def test_all_places_of_small_libraries(self):
        for style, library in near.cases():
            for index, source in enumerate(library):
                now = reading.rank(reading.place(style, library, index))
                for place in range(len(reading.path(style, source))):
                    if place < now:
                        self.assertIsNone(newcomer(style, library, index, place))
                    else:
                        self.check(style, library, index, place)

    def test_newcomers_may_be_passed_back(self):
        library, place = (THREE,), 0
        while place < 4:
            place += 1
            library += (newcomer(STYLE, library, 0, place),)
            self.assertEqual(place_of(STYLE, library, 0), place)
        self.assertEqual(can_become(STYLE, library, 0), path(STYLE, THREE)[-1:])

    def test_wrong_places(self):
        for library, index, many in ((SHELF, 0, 5), (SHELF, 2, 3), ((WIND,), 0, 3)):
            for value in list(STRANGE) + [many, many + 1, 10 ** 39, -1, True, False, "0", 0.0, (0,), [0], None]:
                self.assertRaises(InvalidNumber, newcomer, STYLE, library, index, value)

    def test_the_order_of_the_errors(self):
        self.assertRaises(InvalidStyle, newcomer, None, None, None, None)
        self.assertRaises(InvalidLibrary, newcomer, STYLE, None, None, None)
        self.assertRaises(InvalidIndex, newcomer, STYLE, SHELF, None, None)
        self.assertRaises(InvalidIndex, newcomer, STYLE, SHELF, 4, -1)
        self.assertRaises(InvalidIndex, newcomer, STYLE, (), 0, 0)


class Errors(unittest.TestCase):
    """The errors that several functions of [22] and [23] have."""

    def test_wrong_styles(self):
        for value in WRONG_STYLES:
            for function in (leaving, can_become):
                self.assertRaises(InvalidStyle, function, value, SHELF, 0)
            self.assertRaises(InvalidStyle, settled, value, SHELF)
            self.assertRaises(InvalidStyle, newcomer, value, SHELF, 0, 0)

    def test_wrong_libraries(self):
        for value in WRONG_LIBRARIES:
            for function in (leaving, can_become):
                self.assertRaises(InvalidLibrary, function, STYLE, value, 0)
            self.assertRaises(InvalidLibrary, settled, STYLE, value)
            self.assertRaises(InvalidLibrary, newcomer, STYLE, value, 0, 0)

    def test_wrong_indexes(self):
        for library in (SHELF, (LATER,), ()):
            for value in samples.spoiled_indexes(library):
                for function in (leaving, can_become):
                    self.assertRaises(InvalidIndex, function, STYLE, library, value)
                self.assertRaises(InvalidIndex, newcomer, STYLE, library, value, 0)

    def test_the_order_of_the_errors(self):
        for function in (leaving, can_become):
            self.assertRaises(InvalidStyle, function, None, None, None)
            self.assertRaises(InvalidLibrary, function, STYLE, None, None)
            self.assertRaises(InvalidStyle, function, None, SHELF, -1)
        self.assertRaises(InvalidStyle, settled, None, None)


if __name__ == "__main__":
    unittest.main()
