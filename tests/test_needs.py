import unittest

import near
import reading
import samples
from samples import SHELF, STRANGE, STYLE, THREE, TIDES, WAVES, WIND, replaced
from sourcelabels.errors import InvalidIndex, InvalidLabel, InvalidLibrary, InvalidSource, InvalidStyle, SameSource
from sourcelabels.needs import forced_by, label_of, labels, lookup, need, place_of, printing, reason, stale

WRONG_STYLES = list(STRANGE) + samples.spoiled_styles()
WRONG_LIBRARIES = list(STRANGE) + samples.spoiled_libraries()

# One person, whose label cannot tell the titles apart.
BARE = (1, 1, ("initials",))
ON_A, ON_B, ON_C = [((("smith", "jo"),), 2020, title) for title in ("on a", "on b", "on c")]


def one(part, letters="", title=None, more=False):
    """The label of a source of 2020 with smith as the only shown person."""
    return ((("smith", part),), more, 2020, title, letters)


class Needs(unittest.TestCase):
    """need of [18]."""

    def test_the_least_label_that_does_not_fit(self):
        self.assertEqual(need(STYLE, THREE, WAVES), 2)
        self.assertEqual(need(STYLE, WAVES, THREE), 2)
        self.assertEqual(need(STYLE, THREE, WIND), 0)
        self.assertEqual(need(STYLE, THREE, replaced(THREE, 1, 2019)), 0)
        self.assertEqual(need(STYLE, THREE, replaced(THREE, 2, "on waves")), 4)
        self.assertEqual(need(STYLE, WIND, replaced(WIND, 0, (("smith", "al"),))), 1)

    def test_no_label_does_so(self):
        self.assertIsNone(need(STYLE, WIND, replaced(WIND, 0, (("smith", "joan"),))))
        self.assertIsNone(need(BARE, ON_A, ON_B))

    def test_it_depends_on_who_needs(self):
        style = (2, 1, ("title",))
        self.assertEqual(need(style, replaced(THREE, 2, "on a"), TIDES), 1)
        self.assertEqual(need(style, TIDES, replaced(THREE, 2, "on a")), 0)

    def test_word_by_word(self):
        known = near.pool()
        for style in near.styles():
            for source in known:
                for other in known:
                    if source != other:
                        found = need(style, source, other)
                        self.assertEqual(found, reading.need(style, source, other))
                        self.assertIsNot(type(found), bool)

    def test_arguments_by_name(self):
        self.assertEqual(need(other=WAVES, style=STYLE, source=THREE), 2)

    def test_wrong_styles(self):
        for value in WRONG_STYLES:
            self.assertRaises(InvalidStyle, need, value, TIDES, WIND)

    def test_wrong_sources(self):
        for value in list(STRANGE) + samples.spoiled_sources():
            self.assertRaises(InvalidSource, need, STYLE, value, WIND)
            self.assertRaises(InvalidSource, need, STYLE, TIDES, value)
            self.assertRaises(InvalidSource, need, STYLE, value, value)

    def test_equal_sources(self):
        self.assertRaises(SameSource, need, STYLE, TIDES, TIDES)
        self.assertRaises(SameSource, need, STYLE, WIND, ((("smith", "jo"),), 2020, "on wind"))

    def test_the_order_of_the_errors(self):
        self.assertRaises(InvalidStyle, need, None, None, None)
        self.assertRaises(InvalidStyle, need, None, TIDES, TIDES)


class Places(unittest.TestCase):
    """[11], [13] and place_of of [19]."""

    def test_ordinary_places(self):
        self.assertEqual([place_of(STYLE, SHELF, k) for k in range(4)], [2, 2, 0, 0])
        self.assertEqual([place_of((3, 1, ()), SHELF, k) for k in range(4)], [0, 0, 0, 0])

    def test_no_place(self):
        self.assertEqual([place_of(BARE, (ON_A, ON_B, TIDES), k) for k in range(3)], [None, None, 0])

    def test_a_source_alone(self):
        for style in near.styles():
            self.assertEqual(place_of(style, (TIDES,), 0), 0)

    def test_the_greatest_need(self):
        for style, library in near.cases():
            for index, source in enumerate(library):
                others = library[:index] + library[index + 1:]
                needs = [reading.rank(need(style, source, other)) for other in others]
                self.assertEqual(reading.rank(place_of(style, library, index)), max(needs, default=0))

    def test_word_by_word(self):
        for style, library in near.cases():
            found = [place_of(style, library, k) for k in range(len(library))]
            self.assertEqual(found, reading.places(style, library))


class Labels(unittest.TestCase):
    """[11], [12], [13], label_of and labels of [19]."""

    def test_ordinary_labels(self):
        self.assertEqual(labels(STYLE, SHELF), [
            ((("smith", ""), ("brown", ""), ("lee", "")), False, 2020, None, ""),
            ((("smith", ""), ("brown", ""), ("king", "")), False, 2020, None, ""),
            one(""),
            replaced(one(""), 2, 2021),
        ])

    def test_letters_in_the_order_of_the_sources(self):
        self.assertEqual(labels(BARE, (ON_C, ON_A, ON_B)), [one("j.", "c"), one("j.", "a"), one("j.", "b")])
        self.assertEqual(labels(BARE, (ON_A, WAVES, ON_B))[::2], [one("j.", "a"), one("j.", "b")])

    def test_letters_for_each_last_label(self):
        library = (ON_A, replaced(ON_A, 1, 2019), replaced(ON_B, 1, 2019), ON_B)
        self.assertEqual([label[4] for label in labels(BARE, library)], ["a", "a", "b", "b"])

    def test_letters_past_z(self):
        words = [first + second for first in "abcdef" for second in "abcdef"]
        library = tuple([((("smith", "jo"),), 2020, word) for word in words])
        found = [label[4] for label in labels(BARE, library)]
        self.assertEqual(found, list("abcdefghijklmnopqrstuvwxyz") + ["a" + sign for sign in "abcdefghij"])
        self.assertEqual([label[4] for label in labels(BARE, library[::-1])], found[::-1])

    def test_a_source_that_is_the_only_one_with_letters(self):
        style = (2, 1, ("first given",))
        two = ((("smith", "jo"), ("brown", "ann")), 2020, "on tides")
        three = ((("smith", "jo"), ("brown", "ann"), ("lee", "may")), 2020, "on tides")
        self.assertEqual(labels(style, (two, three)), [
            ((("smith", ""), ("brown", "")), False, 2020, None, ""), one("jo", "a", more=True),
        ])

    def test_only_sources_without_a_place_share_letters(self):
        style = (1, 1, ("first initial", "names"))
        library = (ON_A, ON_B, ((("smith", "jo"), ("lee", "may")), 2020, "on a"))
        self.assertEqual(labels(style, library), [one("j.", "a"), one("j.", "b"), one("", more=True)])

    def test_labels_of_an_empty_library(self):
        self.assertEqual(labels(STYLE, ()), [])

    def test_label_of_is_one_of_labels(self):
        for style, library in near.cases()[::3]:
            found = labels(style, library)
            self.assertEqual([label_of(style, library, k) for k in range(len(library))], found)

    def test_word_by_word(self):
        for style, library in near.cases():
            self.assertEqual(labels(style, library), reading.labels(style, library))

    def test_labels_fit_one_source_and_differ(self):
        for style, library in near.cases():
            found = labels(style, library)
            self.assertEqual(len(set(found)), len(library))
            for index, label in enumerate(found):
                fitted = [k for k, source in enumerate(library) if reading.fits(label, source)]
                self.assertTrue(label[4] != "" and index in fitted or fitted == [index])


class Reasons(unittest.TestCase):
    """reason of [19]."""

    def test_ordinary_reasons(self):
        self.assertEqual([reason(STYLE, SHELF, k) for k in range(4)], [1, 0, None, None])

    def test_no_reason_for_the_place_0(self):
        self.assertIsNone(reason(STYLE, (TIDES,), 0))
        self.assertIsNone(reason(STYLE, (TIDES, WIND), 0))
        self.assertIsNone(reason(STYLE, (TIDES, WIND), 1))

    def test_for_no_place(self):
        self.assertEqual([reason(BARE, (WAVES, ON_A, ON_B, ON_C), k) for k in range(4)], [None, 2, 1, 1])

    def test_the_least_one_that_forces_the_place_itself(self):
        far = replaced(THREE, 0, (("smith", "al"), ("king", "bo"), ("lee", "may")))
        self.assertEqual(reason(STYLE, (far, THREE, WAVES), 1), 2)
        self.assertEqual(reason(STYLE, (THREE, far, replaced(far, 2, "on a"), WAVES), 0), 3)

    def test_word_by_word(self):
        for style, library in near.cases():
            for index, source in enumerate(library):
                place = reading.place(style, library, index)
                forcing = [k for k, other in enumerate(library)
                           if k != index and reading.need(style, source, other) == place]
                self.assertEqual(reason(style, library, index), None if place == 0 else forcing[0])


class Forcing(unittest.TestCase):
    """forced_by of [19]."""

    def test_ordinary_libraries(self):
        self.assertEqual([forced_by(STYLE, SHELF, k) for k in range(4)], [[1], [0], [], []])

    def test_two_that_force_the_same(self):
        self.assertEqual([forced_by(BARE, (ON_A, ON_B), k) for k in (0, 1)], [[1], [0]])
        self.assertEqual([forced_by(BARE, (ON_A, ON_B, ON_C), k) for k in (0, 1, 2)], [[], [], []])

    def test_none_is_greater_than_all(self):
        library = (ON_A, ON_B, replaced(ON_C, 0, (("smith", "al"),)))
        self.assertEqual([place_of(BARE, library, k) for k in range(3)], [None, None, 1])
        self.assertEqual([forced_by(BARE, library, k) for k in range(3)], [[1], [0], []])

    def test_a_source_alone(self):
        self.assertEqual(forced_by(STYLE, (TIDES,), 0), [])

    def test_word_by_word(self):
        for style, library in near.cases():
            places = reading.places(style, library)
            for index in range(len(library)):
                less = [k for k in range(len(library)) if k != index]
                left = reading.places(style, library[:index] + library[index + 1:])
                less = [k for k, place in zip(less, left) if reading.rank(place) < reading.rank(places[k])]
                self.assertEqual(forced_by(style, library, index), less)


class Lookup(unittest.TestCase):
    """lookup of [20]."""

    def test_each_label_of_a_library(self):
        for style, library in near.cases()[::3]:
            for index, label in enumerate(labels(style, library)):
                self.assertEqual(lookup(style, library, label), index)

    def test_no_label_of_the_library(self):
        self.assertIsNone(lookup(STYLE, SHELF, one("j.")))
        self.assertIsNone(lookup(STYLE, SHELF, one("", more=True)))
        self.assertIsNone(lookup(STYLE, SHELF, one("", title="on wind")))
        self.assertIsNone(lookup(STYLE, SHELF, replaced(one(""), 2, 2022)))
        self.assertIsNone(lookup(STYLE, (), one("")))

    def test_letters_count(self):
        library = (ON_B, ON_A)
        self.assertEqual(lookup(BARE, library, one("j.", "a")), 1)
        self.assertEqual(lookup(BARE, library, one("j.", "b")), 0)
        for letters in ("", "c", "aa"):
            self.assertIsNone(lookup(BARE, library, one("j.", letters)))
        self.assertIsNone(lookup(STYLE, SHELF, one("", "a")))

    def test_wrong_labels(self):
        for value in list(STRANGE) + samples.spoiled_labels():
            self.assertRaises(InvalidLabel, lookup, STYLE, SHELF, value)
            self.assertRaises(InvalidLabel, lookup, STYLE, (), value)

    def test_the_order_of_the_errors(self):
        self.assertRaises(InvalidStyle, lookup, None, None, None)
        self.assertRaises(InvalidLibrary, lookup, STYLE, None, None)


class Printing(unittest.TestCase):
    """printing of [20]."""

    def test_a_printed_label_grows_old(self):
        told = list(printing(STYLE, SHELF))
        self.assertEqual(told, [
            (one("", more=True), []),
            (((("smith", ""), ("brown", ""), ("king", "")), False, 2020, None, ""), [0]),
            (one(""), []),
            (replaced(one(""), 2, 2021), []),
        ])

    def test_letters_that_move(self):
        self.assertEqual(list(printing(BARE, (ON_C, ON_B, ON_A))),
                         [(one(""), []), (one("j.", "a"), [0]), (one("j.", "a"), [0, 1])])
        self.assertEqual(list(printing(BARE, (ON_A, ON_B, ON_C))),
                         [(one(""), []), (one("j.", "b"), [0]), (one("j.", "c"), [])])

    def test_the_empty_library(self):
        self.assertEqual(list(printing(STYLE, ())), [])

    def test_it_is_a_generator_of_tuples_with_lists(self):
        walk = printing(STYLE, SHELF)
        self.assertIs(iter(walk), walk)
        first = next(walk)
        self.assertEqual([type(part) for part in (first, first[0], first[1])], [tuple, tuple, list])

    def test_two_walks_side_by_side(self):
        style, library = (1, 1, ("title",)), near.pool()
        for other, shelf in ((style, tuple(library[::-1])), (BARE, tuple(library)), (style, tuple(library))):
            expected = [list(printing(style, tuple(library))), list(printing(other, shelf))]
            one_walk, other_walk, found = printing(style, tuple(library)), printing(other, shelf), [[], []]
            found[1].append(next(other_walk))
            for _ in library[1:]:
                found[0].append(next(one_walk))
                found[1].append(next(other_walk))
            found[0].append(next(one_walk))
            self.assertEqual(found, expected)
            self.assertEqual([list(one_walk), list(other_walk)], [[], []])

    def test_changed_lists_do_not_matter(self):
        known, found, kept = list(printing(BARE, (ON_C, ON_B, ON_A))), [], []
        for label, changed in printing(BARE, (ON_C, ON_B, ON_A)):
            found.append((label, list(changed)))
            kept.append(changed)
            changed.append("x")
        self.assertEqual(found, known)
        self.assertEqual(len(set([id(changed) for changed in kept])), 3)

    def test_word_by_word(self):
        for style, library in near.cases():
            expected = []
            for many in range(1, len(library) + 1):
                old, new = reading.labels(style, library[:many - 1]), reading.labels(style, library[:many])
                expected.append((new[-1], [k for k in range(many - 1) if old[k] != new[k]]))
            self.assertEqual(list(printing(style, library)), expected)

    def test_errors_when_the_first_value_is_asked_for(self):
        for value in WRONG_STYLES:
            self.assertRaises(InvalidStyle, lambda: next(printing(value, SHELF)))
        for value in WRONG_LIBRARIES:
            self.assertRaises(InvalidLibrary, lambda: next(printing(STYLE, value)))
        self.assertRaises(InvalidStyle, lambda: next(printing(None, None)))


class Stale(unittest.TestCase):
    """stale of [20]."""

    def test_ordinary_libraries(self):
        self.assertEqual(stale(STYLE, SHELF), [0])
        self.assertEqual(stale(STYLE, SHELF[::-1]), [2])
        self.assertEqual(stale(STYLE, SHELF[1:]), [])

    def test_letters_count(self):
        self.assertEqual(stale(BARE, (ON_A, ON_B, ON_C)), [0])
        self.assertEqual(stale(BARE, (ON_C, ON_B, ON_A)), [0, 1])

    def test_the_empty_library(self):
        self.assertEqual(stale(STYLE, ()), [])

    def test_word_by_word(self):
        for style, library in near.cases():
            now = reading.labels(style, library)
            old = [reading.labels(style, library[:k + 1])[k] for k in range(len(library))]
            self.assertEqual(stale(style, library), [k for k in range(len(library)) if old[k] != now[k]])


class Errors(unittest.TestCase):
    """The errors that several functions of [19] and [20] have."""

    def test_wrong_styles(self):
        for value in WRONG_STYLES:
            for function in (place_of, label_of, reason, forced_by):
                self.assertRaises(InvalidStyle, function, value, SHELF, 0)
            for function in (labels, stale):
                self.assertRaises(InvalidStyle, function, value, SHELF)
            self.assertRaises(InvalidStyle, lookup, value, SHELF, one(""))

    def test_wrong_libraries(self):
        for value in WRONG_LIBRARIES:
            for function in (place_of, label_of, reason, forced_by):
                self.assertRaises(InvalidLibrary, function, STYLE, value, 0)
            for function in (labels, stale):
                self.assertRaises(InvalidLibrary, function, STYLE, value)
            self.assertRaises(InvalidLibrary, lookup, STYLE, value, one(""))

    def test_wrong_indexes(self):
        for function in (place_of, label_of, reason, forced_by):
            for library in (SHELF, SHELF[:2], ()):
                for value in samples.spoiled_indexes(library):
                    self.assertRaises(InvalidIndex, function, STYLE, library, value)
            self.assertRaises(InvalidIndex, function, STYLE, (), 0)

    def test_the_order_of_the_errors(self):
        for function in (place_of, label_of, reason, forced_by):
            self.assertRaises(InvalidStyle, function, None, None, None)
            self.assertRaises(InvalidStyle, function, None, SHELF, -1)
            self.assertRaises(InvalidLibrary, function, STYLE, None, None)
        for function in (labels, stale):
            self.assertRaises(InvalidStyle, function, None, None)


if __name__ == "__main__":
    unittest.main()
