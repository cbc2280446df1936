import itertools
import unittest

import samples
from reading import fits as told_fits
from samples import LIBRARY, NUMBERS, ONE, STRANGE, TIDES, TWO, WAVES, WIND, replaced
from sourcelabels.errors import InvalidLabel, InvalidLibrary, InvalidSource
from sourcelabels.labels import common, fits, fitting, is_label, narrower, outside
from sourcelabels.sources import is_source

WRONG_LABELS = list(STRANGE) + samples.spoiled_labels()


def label_of(*shown, more=False, year=2020, title=None, letters=""):
    return (shown, more, year, title, letters)


class Kinds(unittest.TestCase):
    """[5] and is_label of [15]."""

    def test_ordinary_labels(self):
        for label in (ONE, TWO, label_of(("smith", "jo"), title="on tides", letters="b")):
            self.assertIs(is_label(label), True)

    def test_parts(self):
        for part in ("", "a.", "z.", "a", "z", "jo", "a" * 12):
            self.assertIs(is_label(label_of(("smith", part))), True)
            self.assertIs(is_label(label_of(("brown", ""), ("smith", part))), True)
        for part in (".", "..", "aa.", "A.", "1.", "a. ", "a ", " a", " ", "a" * 13, "\u00e4.", None, True, b"a.", 0):
            self.assertIs(is_label(label_of(("smith", part))), False)
            self.assertIs(is_label(label_of(("brown", ""), ("smith", part))), False)

    def test_families_are_names(self):
        for family in ("a", "a" * 12):
            self.assertIs(is_label(label_of((family, ""))), True)
        for family in ("", "a" * 13, "j.", "Smith", " a", None, 1, b"a"):
            self.assertIs(is_label(label_of((family, ""))), False)

    def test_more_is_a_bool(self):
        for more in (True, False):
            self.assertIs(is_label(replaced(ONE, 1, more)), True)
        for more in (0, 1, None, "", "et al.", 1.0, ()):
            self.assertIs(is_label(replaced(ONE, 1, more)), False)

    def test_years_from_0_on(self):
        for year in NUMBERS:
            self.assertIs(is_label(replaced(ONE, 2, year)), True)
        for year in samples.spoiled_years():
            self.assertIs(is_label(replaced(ONE, 2, year)), False)

    def test_titles_or_none(self):
        for title in (None, "a", "a" * 40, "on the tides"):
            self.assertIs(is_label(replaced(ONE, 3, title)), True)
        for title in samples.spoiled_titles():
            self.assertIs(is_label(replaced(ONE, 3, title)), False)

    def test_letters_may_be_empty_or_many(self):
        for letters in ("", "a", "z", "aa", "z" * 4000):
            self.assertIs(is_label(replaced(ONE, 4, letters)), True)
        for letters in ("A", "a b", " ", "a.", "1", "a\n", "\u00e4", None, False, 0, b"", ("a",), ["a"]):
            self.assertIs(is_label(replaced(ONE, 4, letters)), False)

    def test_many_shown_people(self):
        for many in (1, 2, 12, 60):
            self.assertIs(is_label(label_of(*[("smith", "j.")] * many)), True)

    def test_any_other_value_is_no_label(self):
        for value in WRONG_LABELS + [TIDES, LIBRARY, ()]:
            self.assertIs(is_label(value), False)

    def test_arguments_by_name(self):
        self.assertIs(is_label(value=ONE), True)


class Fits(unittest.TestCase):
    """[6] and fits of [16]."""

    def test_years(self):
        label = label_of(("smith", ""))
        self.assertIs(fits(label, WIND), True)
        for year in (0, 2019, 2021, 20200, 10 ** 39):
            self.assertIs(fits(label, replaced(WIND, 1, year)), False)
            self.assertIs(fits(replaced(label, 2, year), replaced(WIND, 1, year)), True)

    def test_titles(self):
        self.assertIs(fits(label_of(("smith", ""), title="on wind"), WIND), True)
        for title in ("on", "on win", "on winds", "wind", "on tides"):
            self.assertIs(fits(label_of(("smith", ""), title=title), WIND), False)

    def test_the_number_of_people(self):
        for shown in (1, 2, 3):
            for people in (1, 2, 3, 4, 5):
                pairs = [("smith", "jo")] * people
                source = (tuple(pairs), 2020, "on wind")
                self.assertIs(fits(label_of(*pairs[:1] * shown), source), shown == people)
                self.assertIs(fits(label_of(*pairs[:1] * shown, more=True), source), shown < people)

    def test_parts(self):
        for given, good in (("jo", ("", "j.", "jo")), ("j", ("", "j.", "j")), ("joan", ("", "j.", "joan"))):
            for part in ("", "j.", "o.", "a.", "n.", "j", "jo", "joa", "joan", "o", "smith"):
                source = ((("smith", given),), 2020, "on wind")
                self.assertIs(fits(label_of(("smith", part)), source), part in good)

    def test_each_pair_stands_for_the_person_with_its_index(self):
        self.assertIs(fits(label_of(("smith", "j."), ("brown", "a.")), TIDES), True)
        self.assertIs(fits(label_of(("brown", "a."), ("smith", "j.")), TIDES), False)
        self.assertIs(fits(label_of(("smith", ""), ("king", ""), more=True), WAVES), False)
        self.assertIs(fits(label_of(("brown", ""), more=True), WAVES), False)

    def test_families_are_equal(self):
        for family in ("smit", "smiths", "s", "jo", "brown"):
            self.assertIs(fits(label_of((family, "")), WIND), False)

    def test_letters_do_not_matter(self):
        for letters in ("", "a", "b", "zz", "z" * 4000):
            self.assertIs(fits(label_of(("smith", ""), letters=letters), WIND), True)
            self.assertIs(fits(label_of(("lee", ""), letters=letters), WIND), False)

    def test_arguments_by_name(self):
        self.assertIs(fits(source=TIDES, label=ONE), True)

    def test_wrong_labels(self):
        for value in WRONG_LABELS:
            self.assertRaises(InvalidLabel, fits, value, TIDES)

    def test_wrong_sources(self):
        for value in list(STRANGE) + samples.spoiled_sources() + [ONE]:
            self.assertRaises(InvalidSource, fits, ONE, value)

    def test_the_label_is_checked_first(self):
        self.assertRaises(InvalidLabel, fits, None, None)
        self.assertRaises(InvalidLabel, fits, source=ONE, label=TIDES)


class Fitting(unittest.TestCase):
    """fitting of [16]."""

    def test_indexes_of_the_sources(self):
        self.assertEqual(fitting(LIBRARY, ONE), [0, 1])
        self.assertEqual(fitting(LIBRARY[::-1], ONE), [2, 3])
        self.assertEqual(fitting(LIBRARY, TWO), [])
        self.assertEqual(fitting(LIBRARY, label_of(("smith", ""))), [2])
        self.assertEqual(fitting(LIBRARY, label_of(("lee", "m."), ("smith", "jo"), year=1999)), [3])
        self.assertEqual(fitting(LIBRARY, label_of(("smith", ""), year=1999)), [])

    def test_letters_do_not_matter(self):
        self.assertEqual(fitting(LIBRARY, replaced(ONE, 4, "ab")), [0, 1])

    def test_the_empty_library(self):
        self.assertEqual(fitting((), ONE), [])

    def test_arguments_by_name(self):
        self.assertEqual(fitting(label=ONE, library=LIBRARY), [0, 1])

    def test_new_lists(self):
        first = fitting(LIBRARY, ONE)
        first.append(7)
        second = fitting(LIBRARY, ONE)
        self.assertEqual(second, [0, 1])
        self.assertIsNot(second, fitting(LIBRARY, ONE))

    def test_wrong_libraries(self):
        for value in list(STRANGE) + samples.spoiled_libraries():
            self.assertRaises(InvalidLibrary, fitting, value, ONE)

    def test_wrong_labels(self):
        for value in WRONG_LABELS:
            self.assertRaises(InvalidLabel, fitting, LIBRARY, value)
            self.assertRaises(InvalidLabel, fitting, (), value)

    def test_the_library_is_checked_first(self):
        self.assertRaises(InvalidLibrary, fitting, None, None)
        self.assertRaises(InvalidLibrary, fitting, label=None, library=(WIND, WIND))


class Narrower(unittest.TestCase):
    """narrower of [16]."""

    def test_each_label_is_narrower_than_itself(self):
        for label in (ONE, TWO, label_of(("smith", "jo"), title="on tides")):
            self.assertIs(narrower(label, label), True)

    def test_labels_that_differ_in_their_letters_alone(self):
        for letters, others in (("", "a"), ("a", ""), ("b", "zz")):
            self.assertIs(narrower(replaced(ONE, 4, letters), replaced(ONE, 4, others)), True)

    def test_parts(self):
        chain = ("jo", "j.", "")
        for low, high in itertools.product(range(3), repeat=2):
            label, other = label_of(("smith", chain[low])), label_of(("smith", chain[high]))
            self.assertIs(narrower(label, other), low <= high)
        for part in ("a.", "jon", "j", "o.", "ann"):
            self.assertIs(narrower(label_of(("smith", "jo")), label_of(("smith", part))), False)
        self.assertIs(narrower(label_of(("smith", "j")), label_of(("smith", "j."))), True)
        self.assertIs(narrower(label_of(("smith", "j.")), label_of(("smith", "j"))), False)

    def test_more_without_a_pair_left_over(self):
        pair = ("smith", "")
        self.assertIs(narrower(label_of(pair), label_of(pair, more=True)), False)
        self.assertIs(narrower(label_of(pair, more=True), label_of(pair)), False)
        self.assertIs(narrower(label_of(pair, more=True), label_of(pair, more=True)), True)

    def test_more_with_pairs_left_over(self):
        one, two = label_of(("smith", ""), more=True), label_of(("smith", ""), ("lee", ""), more=True)
        self.assertIs(narrower(two, one), True)
        self.assertIs(narrower(one, two), False)
        self.assertIs(narrower(replaced(two, 1, False), one), True)
        self.assertIs(narrower(one, replaced(two, 1, False)), False)
        self.assertIs(narrower(replaced(two, 1, False), replaced(one, 1, False)), False)

    def test_years_and_titles(self):
        self.assertIs(narrower(ONE, replaced(ONE, 2, 2021)), False)
        self.assertIs(narrower(replaced(ONE, 3, "a"), ONE), True)
        self.assertIs(narrower(ONE, replaced(ONE, 3, "a")), False)
        self.assertIs(narrower(replaced(ONE, 3, "a"), replaced(ONE, 3, "b")), False)

    def test_arguments_by_name(self):
        self.assertIs(narrower(other=ONE, label=TWO), True)


class Common(unittest.TestCase):
    """common of [16]."""

    def test_the_narrower_one_without_letters(self):
        self.assertEqual(common(replaced(TWO, 4, "b"), replaced(ONE, 4, "a")), TWO)
        self.assertEqual(common(ONE, TWO), TWO)
        self.assertEqual(common(replaced(ONE, 4, "c"), replaced(ONE, 4, "d")), ONE)

    def test_parts_of_both(self):
        left = label_of(("smith", "j."), ("lee", ""), ("brown", "ann"), more=True, title="on tides")
        right = label_of(("smith", "jo"), ("lee", "m."), more=True)
        joined = label_of(("smith", "jo"), ("lee", "m."), ("brown", "ann"), more=True, title="on tides")
        self.assertEqual(common(left, right), joined)
        self.assertEqual(common(right, left), joined)

    def test_more_against_a_number(self):
        pairs = (("smith", ""), ("lee", ""))
        self.assertEqual(common(label_of(*pairs), label_of(("smith", "jo"), more=True)),
                         label_of(("smith", "jo"), ("lee", "")))
        self.assertIsNone(common(label_of(*pairs), label_of(*pairs, more=True)))
        self.assertIsNone(common(label_of(("smith", "")), label_of(*pairs, more=True)))
        self.assertIsNone(common(label_of(("smith", "")), label_of(*pairs)))

    def test_no_common_source(self):
        for other in (label_of(("smith", "a.")), label_of(("smith", "jon")), label_of(("lee", "")),
                      label_of(("smith", "jo"), year=2021), label_of(("smith", "jo"), title="b")):
            label = label_of(("smith", "jo"), title="a")
            self.assertIsNone(common(label, other))
            self.assertIsNone(common(other, label))

    def test_arguments_by_name(self):
        self.assertEqual(common(other=ONE, label=TWO), TWO)


class Outside(unittest.TestCase):
    """outside of [16]."""

    def check(self, label, other):
        source = outside(label, other)
        self.assertIs(is_source(source), True)
        self.assertTrue(told_fits(label, source))
        self.assertFalse(told_fits(other, source))

    def test_there_is_none(self):
        for label, other in ((TWO, ONE), (ONE, ONE), (ONE, replaced(ONE, 4, "b")), (replaced(ONE, 4, "b"), ONE)):
            self.assertIsNone(outside(label, other))

    def test_parts(self):
        parts = ("", "a.", "b.", "a", "b", "aa", "ab", "j.", "j", "jj", "jo", "a" * 12)
        for part, other in itertools.permutations(parts, 2):
            if narrower(label_of(("smith", part)), label_of(("smith", other))):
                self.assertIsNone(outside(label_of(("smith", part)), label_of(("smith", other))))
            else:
                self.check(label_of(("smith", part)), label_of(("smith", other)))

    def test_titles(self):
        for title in ("a", "b", "c", "a" * 40):
            self.check(ONE, replaced(ONE, 3, title))
        self.check(replaced(ONE, 3, "a"), replaced(ONE, 3, "b"))

    def test_years(self):
        self.check(ONE, replaced(ONE, 2, 0))

    def test_the_number_of_people(self):
        pairs = [("a", "")] * 5
        for many, least in itertools.product(range(1, 6), repeat=2):
            label, other = label_of(*pairs[:many]), label_of(*pairs[:least])
            self.check(replaced(label, 1, True), other)
            if many != least:
                self.check(label, other)
            if many <= least:
                self.check(label, replaced(other, 1, True))
            if many < least:
                self.check(replaced(label, 1, True), replaced(other, 1, True))

    def test_twelve_shown_people(self):
        label = label_of(*[("smith", "")] * 12, more=True)
        self.check(label, label_of(*[("smith", "")] * 11 + [("smith", "a.")], more=True))
        self.check(label, label_of(*[("smith", "")] * 12 + [("smith", "")]))

    def test_arguments_by_name(self):
        source = outside(other=TWO, label=ONE)
        self.assertEqual([fits(ONE, source), fits(TWO, source)], [True, False])
        self.assertIsNone(outside(other=ONE, label=TWO))


class TwoLabels(unittest.TestCase):
    """The errors of narrower, common and outside."""

    def test_wrong_labels(self):
        for function in (narrower, common, outside):
            for value in WRONG_LABELS:
                self.assertRaises(InvalidLabel, function, value, ONE)
                self.assertRaises(InvalidLabel, function, ONE, value)
            self.assertRaises(InvalidLabel, function, None, None)


def small_labels():
    """Labels over few names, so that few sources tell each two of them apart."""
    pairs = (("a", ""), ("a", "a."), ("a", "a"), ("a", "b"), ("b", ""))
    shown = list(itertools.product(pairs, repeat=1)) + list(itertools.product(pairs, repeat=2))
    labels = list(itertools.product(shown, (True, False), (3,), (None, "t"), ("",)))
    return labels + [(shown[0], False, 4, None, ""), (shown[7], True, 4, None, "b"), (shown[7], True, 3, None, "b")]


def small_sources():
    persons = (("a", "a"), ("a", "ab"), ("a", "b"), ("b", "a"))
    people = [told for many in range(1, 5) for told in itertools.product(persons, repeat=many)]
    return list(itertools.product(people, (3,), ("t", "u"))) + [(told, 4, "t") for told in people]


class AllSmallOnes(unittest.TestCase):
    """[6] and [16] against all sources over few names."""

    @classmethod
    def setUpClass(cls):
        cls.labels = small_labels()
        cls.sources = small_sources()
        cls.sets = [sum([told_fits(label, source) << k for k, source in enumerate(cls.sources)])
                    for label in cls.labels]

    def test_fits(self):
        for label in self.labels:
            for source in self.sources[::7]:
                self.assertIs(fits(label, source), told_fits(label, source))

    def test_fitting(self):
        library = tuple(self.sources)
        for label, fitted in zip(self.labels[::5], self.sets[::5]):
            self.assertEqual(fitting(library, label), [k for k in range(len(library)) if fitted >> k & 1])

    def test_each_two_labels(self):
        by_set = {fitted: replaced(label, 4, "") for label, fitted in zip(self.labels, self.sets)}
        self.assertNotIn(0, by_set)
        self.assertEqual(len(by_set), len(self.labels) - 1)
        for label, fitted in zip(self.labels, self.sets):
            for other, met in zip(self.labels, self.sets):
                self.assertIs(narrower(label, other), fitted & ~met == 0)
                # The labels are closed under common, so the set of both always has its label here.
                self.assertEqual(common(label, other), by_set[fitted & met] if fitted & met else None)
                source = outside(label, other)
                if fitted & ~met:
                    self.assertTrue(is_source(source) and told_fits(label, source) and not told_fits(other, source))
                else:
                    self.assertIsNone(source)


if __name__ == "__main__":
    unittest.main()
