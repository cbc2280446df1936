import itertools
import time
import unittest

import near
import reading
import samples
from samples import SHELF, STRANGE, STYLE, TIDES, WIND
from sourcelabels.errors import InvalidLibrary, InvalidStyle
from sourcelabels.groups import letter_groups, plain, without_letters

BARE = (1, 1, ("initials",))
ON_A, ON_B, ON_C = [((("smith", "jo"),), 2020, title) for title in ("on a", "on b", "on c")]


def by(*given, year=2020, title="on a"):
    """A source by smiths with these given names."""
    return (tuple([("smith", name) for name in given]), year, title)


def chosen(library, indexes):
    return tuple([library[index] for index in indexes])


def letterless(style, library):
    return None not in reading.places(style, library)


def all_first(style, library):
    return set(reading.places(style, library)) <= {0}


def many_at_most(style, library, is_good):
    """The greatest number of sources that are good as a library by themselves, by trying all sets."""
    for many in range(len(library), -1, -1):
        if any([is_good(style, part) for part in itertools.combinations(library, many)]):
            return many


class LetterGroups(unittest.TestCase):
    """letter_groups of [21]."""

    def test_no_letters(self):
        self.assertEqual(letter_groups(STYLE, SHELF), [])
        self.assertEqual(letter_groups(STYLE, ()), [])
        self.assertEqual(letter_groups(BARE, (ON_A,)), [])

    def test_each_list_in_the_order_of_the_letters(self):
        self.assertEqual(letter_groups(BARE, (ON_C, ON_A, ON_B)), [[1, 2, 0]])
        self.assertEqual(letter_groups(BARE, (ON_B, WIND, ON_C)), [[0, 2, 1]])

    def test_the_lists_by_their_least_indexes(self):
        library = (by("jo", year=2019, title="on b"), ON_C, by("jo", year=2019), by("al"), ON_A)
        self.assertEqual(letter_groups(BARE, library), [[2, 0], [4, 1]])
        self.assertEqual(letter_groups(BARE, library[1:] + library[:1]), [[3, 0], [1, 4]])

    def test_a_group_of_one_source(self):
        style = (2, 1, ("first given",))
        library = (by("jo", "al"), by("jo", "al", "ann"))
        self.assertEqual(letter_groups(style, library), [[1]])
        self.assertEqual(letter_groups(style, library + (by("al", "jo"), by("al", "jo", "jo"))), [[1], [3]])

    def test_sources_with_a_place_are_in_no_group(self):
        style = (2, 1, ("first given",))
        library = (by("jo", "al", "jo"), by("jo", "al"), by("jo", "al", "ann"), by("ann", "al", "jo"))
        self.assertEqual(letter_groups(style, library), [[2, 0]])

    def test_word_by_word(self):
        for style, library in near.cases():
            self.assertEqual(letter_groups(style, library), reading.letter_groups(style, library))

    def test_new_lists(self):
        library = (ON_A, ON_B, by("al"), by("al", title="on b"))
        first, second = letter_groups(BARE, library), letter_groups(BARE, library)
        self.assertEqual(first, [[0, 1], [2, 3]])
        lists = [first, second] + first + second
        self.assertEqual(len(set([id(found) for found in lists])), 6)
        first[0].append(9)
        first.clear()
        self.assertEqual(second, [[0, 1], [2, 3]])
        self.assertEqual(letter_groups(BARE, library), second)


class MostSources(unittest.TestCase):
    """without_letters and plain of [21]."""

    def check(self, function, is_good, style, library, many):
        found = function(style, library)
        self.assertIs(type(found), list)
        self.assertEqual(found, sorted(set(found)))
        self.assertTrue(all([0 <= index < len(library) for index in found]))
        self.assertTrue(is_good(style, chosen(library, found)), (style, library, found))
        self.assertEqual(len(found), many, (style, library, found))

    def test_nothing_to_take_out(self):
        for function in (without_letters, plain):
            self.assertEqual(function(STYLE, ()), [])
            self.assertEqual(function(STYLE, (TIDES,)), [0])
            self.assertEqual(function(STYLE, SHELF[1:]), [0, 1, 2])
        self.assertEqual(without_letters(STYLE, SHELF), [0, 1, 2, 3])

    def test_one_of_the_sources_with_equal_labels(self):
        self.check(plain, all_first, STYLE, SHELF, 3)
        self.check(without_letters, letterless, BARE, (ON_A, ON_B, ON_C), 1)
        self.check(without_letters, letterless, BARE, (ON_A, by("al"), ON_B, ON_C), 2)
        self.check(plain, all_first, BARE, (ON_A, by("al"), ON_B, ON_C), 1)

    def test_a_label_that_holds_others(self):
        style = (2, 1, ("first given",))
        library = (by("jo", "al", "jo"), by("jo", "al"), by("jo", "al", "ann"))
        self.check(without_letters, letterless, style, library, 1)
        self.check(plain, all_first, style, library, 1)
        style = (3, 1, ("given",))
        library = (by("jo", "a", "b", "c"), by("jo", "al"), by("jo", "ann"), by("jo", "al", "ann"), by("jo", "x", "al"))
        self.check(without_letters, letterless, style, library, 4)
        self.check(without_letters, letterless, style, library[:1], 1)
        self.check(plain, all_first, style, library, 2)

    def test_all_sets_of_small_libraries(self):
        for style, library in near.cases():
            self.check(without_letters, letterless, style, library, many_at_most(style, library, letterless))
            self.check(plain, all_first, style, library, many_at_most(style, library, all_first))

    def test_all_sources_of_the_pool_by_all_steps(self):
        library = tuple(near.pool())
        for style in near.styles():
            for part in (library[::2], library[1::2], library[3:10]):
                self.check(without_letters, letterless, style, part, many_at_most(style, part, letterless))
                self.check(plain, all_first, style, part, many_at_most(style, part, all_first))

    def test_libraries_of_40_sources_in_a_moment(self):
        start = time.monotonic()
        # Each of four years has four last labels of two people inside one that ends with more, each of four others
        # has only one that ends with more.
        shelf = tuple([by("jo", other, year=year) for year in range(4) for other in ("a", "b", "c", "d")]
                      + [by("jo", "x", other, year=year) for year in range(8) for other in ("a", "b", "c")])
        style = (2, 1, ("initials", "given"))
        self.check(without_letters, letterless, style, shelf, 4 * 4 + 4)
        self.check(plain, all_first, style, shelf, 4 + 4)
        for style in near.LARGE_STYLES:
            library = near.large_library()
            self.assertTrue(letterless(style, chosen(library, without_letters(style, library))))
            self.assertTrue(all_first(style, chosen(library, plain(style, library))))
        self.assertLess(time.monotonic() - start, 20)

    def test_new_lists(self):
        for function in (without_letters, plain):
            first, second = function(STYLE, SHELF[1:]), function(STYLE, SHELF[1:])
            self.assertIsNot(first, second)
            first.append(9)
            self.assertEqual(second, [0, 1, 2])


class Errors(unittest.TestCase):
    """The errors of [21]."""

    def test_wrong_styles(self):
        for function in (letter_groups, without_letters, plain):
            for value in list(STRANGE) + samples.spoiled_styles():
                self.assertRaises(InvalidStyle, function, value, SHELF)

    def test_wrong_libraries(self):
        for function in (letter_groups, without_letters, plain):
            for value in list(STRANGE) + samples.spoiled_libraries():
                self.assertRaises(InvalidLibrary, function, STYLE, value)

    def test_the_style_is_checked_first(self):
        for function in (letter_groups, without_letters, plain):
            self.assertRaises(InvalidStyle, function, None, None)
            self.assertRaises(InvalidStyle, function, library=[], style=[])


if __name__ == "__main__":
    unittest.main()
