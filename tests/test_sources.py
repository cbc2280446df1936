import unittest

import samples
from samples import LIBRARY, RAIN, STRANGE, TIDES, WAVES, WIND, replaced
from sourcelabels.errors import InvalidLibrary, InvalidName
from sourcelabels.sources import is_library, is_source, places_by_name, sorted_library, years_of


def source_by(*people):
    return (people, 2020, "on tides")


class Sources(unittest.TestCase):
    """[4] and is_source of [15]."""

    def test_ordinary_sources(self):
        for source in LIBRARY:
            self.assertIs(is_source(source), True)

    def test_names_of_1_to_12_letters(self):
        for name in ("a", "z", "abcdefghijkl", "zzzzzzzzzzzz"):
            self.assertIs(is_source(source_by((name, "jo"))), True)
            self.assertIs(is_source(source_by(("smith", name))), True)
        for name in ("", "abcdefghijklm", "z" * 4000):
            self.assertIs(is_source(source_by((name, "jo"))), False)
            self.assertIs(is_source(source_by(("smith", name))), False)

    def test_only_letters_from_a_to_z_in_names(self):
        for sign in ("`", "{", "A", "Z", " ", ".", "-", "0", "\n", "\u00e4", "\u00df", "\u0430", "\u00aa", "\ud800"):
            for name in (sign, "a" + sign, sign + "a", "a" + sign + "a"):
                self.assertIs(is_source(source_by((name, "jo"))), False)
                self.assertIs(is_source(source_by(("smith", name))), False)

    def test_titles_of_1_to_40_signs(self):
        for title in ("a", "z", "a b", "a" * 40, "a " * 19 + "ab", "on the tides"):
            self.assertIs(is_source(replaced(TIDES, 2, title)), True)
        for title in samples.spoiled_titles():
            self.assertIs(is_source(replaced(TIDES, 2, title)), False)

    def test_years_from_0_on(self):
        for year in samples.NUMBERS:
            self.assertIs(is_source(replaced(TIDES, 1, year)), True)
        for year in samples.spoiled_years():
            self.assertIs(is_source(replaced(TIDES, 1, year)), False)

    def test_people(self):
        for many in (1, 2, 8, 12, 60):
            self.assertIs(is_source(source_by(*[("smith", "jo")] * many)), True)
        for people in samples.spoiled_people():
            self.assertIs(is_source(replaced(TIDES, 0, people)), False)

    def test_any_other_value_is_no_source(self):
        for value in list(STRANGE) + samples.spoiled_sources() + [LIBRARY, samples.ONE]:
            self.assertIs(is_source(value), False)

    def test_arguments_by_name(self):
        self.assertIs(is_source(value=TIDES), True)


class Libraries(unittest.TestCase):
    """[4] and is_library of [15]."""

    def test_ordinary_libraries(self):
        for library in ((), (TIDES,), LIBRARY, LIBRARY[::-1]):
            self.assertIs(is_library(library), True)

    def test_sources_have_to_be_different(self):
        copy = (tuple([tuple(list(person)) for person in WIND[0]]), 2020, "on wind")
        self.assertIs(is_library((WIND, copy)), False)
        self.assertIs(is_library((WIND, RAIN, copy)), False)

    def test_sources_that_differ_in_one_part(self):
        library = (
            WIND, replaced(WIND, 1, 2021), replaced(WIND, 2, "on winds"), replaced(WIND, 0, (("smith", "jon"),)),
            replaced(WIND, 0, (("smiths", "jo"),)), replaced(WIND, 0, (("jo", "smith"),)), replaced(WIND, 1, 0),
            replaced(WIND, 0, (("smith", "jo"), ("smith", "jo"))),
        )
        self.assertIs(is_library(library), True)

    def test_any_other_value_is_no_library(self):
        for value in list(STRANGE) + samples.spoiled_libraries():
            self.assertIs(is_library(value), False)

    def test_arguments_by_name(self):
        self.assertIs(is_library(value=LIBRARY), True)


class Sorting(unittest.TestCase):
    """The order of [4] and sorted_library of [15]."""

    def test_people_first_then_year_then_title(self):
        ascending = (
            ((("a", "a"),), 5, "b"), ((("a", "a"),), 30, "a"), ((("a", "a"),), 30, "a b"), ((("a", "a"),), 30, "aa"),
            ((("a", "a"), ("a", "a")), 0, "a"), ((("a", "aa"),), 0, "a"), ((("a", "b"),), 0, "a"),
            ((("aa", "a"),), 0, "a"), ((("b", "a"),), 0, "a"),
        )
        for library in (ascending, ascending[::-1], ascending[4:] + ascending[:4], ascending[::2] + ascending[1::2]):
            self.assertEqual(sorted_library(library), ascending)
        self.assertEqual(sorted_library(LIBRARY), (RAIN, WAVES, WIND, TIDES))

    def test_the_argument_stays(self):
        library = (TIDES, RAIN)
        self.assertEqual(sorted_library(library), (RAIN, TIDES))
        self.assertEqual(library, (TIDES, RAIN))

    def test_small_libraries(self):
        self.assertEqual(sorted_library(()), ())
        self.assertEqual(sorted_library((TIDES,)), (TIDES,))

    def test_the_answer_is_a_library(self):
        self.assertIs(type(sorted_library(LIBRARY)), tuple)
        self.assertIs(is_library(sorted_library(LIBRARY)), True)

    def test_arguments_by_name(self):
        self.assertEqual(sorted_library(library=(TIDES,)), (TIDES,))

    def test_wrong_libraries(self):
        for value in list(STRANGE) + samples.spoiled_libraries():
            self.assertRaises(InvalidLibrary, sorted_library, value)


class Places(unittest.TestCase):
    """places_by_name of [15]."""

    def test_any_person_of_a_source_counts(self):
        self.assertEqual(places_by_name(LIBRARY, "smith"), [0, 1, 2, 3])
        self.assertEqual(places_by_name(LIBRARY, "brown"), [0, 1])
        self.assertEqual(places_by_name(LIBRARY, "king"), [1])
        self.assertEqual(places_by_name(LIBRARY, "lee"), [3])

    def test_the_order_of_the_library_counts(self):
        self.assertEqual(places_by_name(LIBRARY[::-1], "brown"), [2, 3])

    def test_a_source_counts_once(self):
        self.assertEqual(places_by_name((source_by(("smith", "jo"), ("smith", "al")),), "smith"), [0])

    def test_given_names_and_beginnings_do_not_count(self):
        for family in ("jo", "ann", "smit", "smiths", "mith", "s", "x"):
            self.assertEqual(places_by_name(LIBRARY, family), [])

    def test_the_empty_library(self):
        self.assertEqual(places_by_name((), "smith"), [])

    def test_arguments_by_name(self):
        self.assertEqual(places_by_name(family="king", library=LIBRARY), [1])

    def test_new_lists(self):
        first = places_by_name(LIBRARY, "smith")
        second = places_by_name(LIBRARY, "smith")
        self.assertIsNot(first, second)
        first.append(9)
        self.assertEqual(second, [0, 1, 2, 3])
        self.assertEqual(places_by_name(LIBRARY, "smith"), [0, 1, 2, 3])

    def test_wrong_libraries(self):
        for value in list(STRANGE) + samples.spoiled_libraries():
            self.assertRaises(InvalidLibrary, places_by_name, value, "smith")

    def test_wrong_names(self):
        for value in STRANGE + ("", "a" * 13, "j.", "Smith", "a b", "smith ", 0, (), ("smith",)):
            self.assertRaises(InvalidName, places_by_name, LIBRARY, value)
            self.assertRaises(InvalidName, places_by_name, (), value)

    def test_the_library_is_checked_first(self):
        self.assertRaises(InvalidLibrary, places_by_name, None, None)
        self.assertRaises(InvalidLibrary, places_by_name, family="", library=(WIND, WIND))


class Years(unittest.TestCase):
    """years_of of [15]."""

    def test_years_are_counted_and_ascend(self):
        self.assertEqual(years_of(LIBRARY), [(1999, 1), (2020, 3)])
        self.assertEqual(years_of(LIBRARY[::-1]), [(1999, 1), (2020, 3)])

    def test_years_are_ordered_as_numbers(self):
        library = tuple([replaced(WIND, 1, year) for year in (10 ** 39, 100, 20, 3, 0)])
        self.assertEqual(years_of(library), [(0, 1), (3, 1), (20, 1), (100, 1), (10 ** 39, 1)])

    def test_the_empty_library(self):
        self.assertEqual(years_of(()), [])

    def test_kinds_of_the_answers(self):
        self.assertIs(type(years_of(LIBRARY)), list)
        self.assertIs(type(years_of(LIBRARY)[0]), tuple)

    def test_arguments_by_name(self):
        self.assertEqual(years_of(library=LIBRARY), [(1999, 1), (2020, 3)])

    def test_new_lists(self):
        first = years_of(LIBRARY)
        first.clear()
        second = years_of(LIBRARY)
        self.assertEqual(second, [(1999, 1), (2020, 3)])
        self.assertIsNot(second, years_of(LIBRARY))

    def test_wrong_libraries(self):
        for value in list(STRANGE) + samples.spoiled_libraries():
            self.assertRaises(InvalidLibrary, years_of, value)


if __name__ == "__main__":
    unittest.main()
