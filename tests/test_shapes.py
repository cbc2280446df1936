import itertools
import time
import unittest

import near
import reading
import samples
from samples import LIBRARY, SHELF, STRANGE, THREE, TIDES, WIND
from sourcelabels.errors import InvalidIndex, InvalidLibrary, InvalidSource
from sourcelabels.labels import full_label
from sourcelabels.shapes import alone, shapes, shortest, shortest_of, widest_alone
from sourcelabels.texts import format_label, parse_label, parse_library, parse_source

WRONG_LIBRARIES = list(STRANGE) + samples.spoiled_libraries()


def read_shapes(source):
    """The shapes of [31]"""
    found = []
    for k in range(1, len(source[0]) + 1):
        for first, rest in itertools.product(range(3), repeat=2):
            for title in (False, True):
                label = reading.label_in((k, first, rest, title), source)
                if label not in found:
                    found.append(label)
    return found


def read_alone(library, index):
    """The shapes of [31] that stand alone"""
    others = [source for k, source in enumerate(library) if k != index]
    return [label for label in read_shapes(library[index])
            if not any([reading.fits(label, source) for source in others])]


def read_widest(library, index):
    """The shapes that stand alone and fit no fewer of the sources around than another one that fits them too"""
    known = near.around(library[index])
    labels = read_alone(library, index)
    fitted = [frozenset([k for k, source in enumerate(known) if reading.fits(label, source)]) for label in labels]
    return [label for label, found in zip(labels, fitted) if not any([found < other for other in fitted])]


def read_text(label):
    """The text of [34]"""
    shown, more, year, title, letters = label
    pairs = ", ".join([family if part == "" else part + " " + family for family, part in shown])
    return pairs + (" et al." if more else "") + " " + str(year) + letters + ("" if title is None else f' "{title}"')


class Shapes(unittest.TestCase):
    """shapes of [31]."""

    def test_one_person(self):
        texts = ["smith 2020", 'smith 2020 "on wind"', "j. smith 2020", 'j. smith 2020 "on wind"', "jo smith 2020",
                 'jo smith 2020 "on wind"']
        self.assertEqual([format_label(label) for label in shapes(WIND)], texts)

    def test_two_people(self):
        found = [format_label(label) for label in shapes(TIDES)]
        self.assertEqual(found[:12:2] + found[-2:], [
            "smith et al. 2020", "j. smith et al. 2020", "jo smith et al. 2020", "smith, brown 2020",
            "smith, a. brown 2020", "smith, ann brown 2020", "jo smith, ann brown 2020",
            'jo smith, ann brown 2020 "on tides"',
        ])
        self.assertEqual(found[1::2], [text + ' "on tides"' for text in found[::2]])
        self.assertEqual(len(found), 24)

    def test_hidden_persons_count_once(self):
        for many in range(1, 9):
            source = ((("a", "b"),) * many, 0, "t")
            found = shapes(source)
            self.assertEqual(len(found), 6 + 18 * (many - 1))
            self.assertEqual(len(set(found)), len(found))

    def test_a_given_name_that_is_a_letter_is_no_initial(self):
        texts = [format_label(label) for label in shapes(parse_source("a b; 0; c"))]
        self.assertEqual(texts, ["a 0", 'a 0 "c"', "b. a 0", 'b. a 0 "c"', "b a 0", 'b a 0 "c"'])

    def test_word_by_word(self):
        for source in near.pool() + list(SHELF) + list(LIBRARY):
            self.assertEqual(shapes(source), read_shapes(source))

    def test_wrong_sources(self):
        for value in list(STRANGE) + samples.spoiled_sources():
            self.assertRaises(InvalidSource, shapes, value)


class Alone(unittest.TestCase):
    """alone, widest_alone and shortest of [31]."""

    def test_the_only_source(self):
        for source in LIBRARY:
            self.assertEqual(alone((source,), 0), shapes(source))
            # All others say more.
            self.assertEqual(widest_alone((source,), 0), shapes(source)[:1])

    def test_labels_that_stand_alone(self):
        library = parse_library(["smith jo, ng ann; 2020; tides", "smith jo; 2020; tides", "smith al, ng bo; 2020; sand"])
        found = [[format_label(label) for label in alone(library, index)] for index in range(3)]
        self.assertEqual(found[0][:4], ['smith et al. 2020 "tides"', "j. smith et al. 2020",
                                        'j. smith et al. 2020 "tides"', "jo smith et al. 2020"])
        self.assertEqual(found[1], ["smith 2020", 'smith 2020 "tides"', "j. smith 2020", 'j. smith 2020 "tides"',
                                    "jo smith 2020", 'jo smith 2020 "tides"'])
        self.assertEqual([format_label(label) for label in widest_alone(library, 0)],
                         ['smith et al. 2020 "tides"', "j. smith et al. 2020", "smith, a. ng 2020"])
        self.assertEqual([format_label(shortest(library, index)) for index in range(3)],
                         ["smith, a. ng 2020", "smith 2020", "smith, b. ng 2020"])

    def test_the_shortest_one_may_be_none_of_the_widest(self):
        library = parse_library(["smith jo, ng ann; 2020; tides", "lee jo; 2020; tides"])
        self.assertEqual(format_label(shortest(library, 0)), "smith, ng 2020")
        self.assertEqual([format_label(label) for label in widest_alone(library, 0)], ["smith et al. 2020"])
        library = parse_library(["smith j; 2020; tides", "smith al; 2020; tides"])
        self.assertEqual(format_label(shortest(library, 0)), "j smith 2020")

    def test_letters_are_left_out(self):
        library = parse_library(["smith jo; 2020; a", "smith jo; 2020; b"])
        self.assertEqual(alone(library, 0), [parse_label(text + ' 2020 "a"') for text in ("smith", "j. smith", "jo smith")])
        self.assertEqual(widest_alone(library, 1), [parse_label('smith 2020 "b"')])
        self.assertEqual(shortest(library, 1), parse_label('smith 2020 "b"'))

    def test_the_label_that_says_all_always_stands_alone(self):
        """So shortest is None for no library; only where no shape is left it would be."""
        for library in near.libraries():
            for index, source in enumerate(library):
                self.assertEqual(alone(library, index)[-1], full_label(source))
                self.assertIsNotNone(shortest(library, index))
        self.assertIsNone(shortest_of([]))

    def test_word_by_word(self):
        for library in near.libraries():
            for index in range(len(library)):
                expected = read_alone(library, index)
                self.assertEqual(alone(library, index), expected)
                told = shortest(library, index)
                self.assertIn(told, expected)
                self.assertEqual(len(read_text(told)), min([len(read_text(label)) for label in expected]))

    def test_widest_word_by_word(self):
        for library in near.libraries()[::3]:
            for index, source in enumerate(library):
                if len(source[0]) <= 3:
                    self.assertEqual(widest_alone(library, index), read_widest(library, index))

    def test_at_the_limits(self):
        start = time.monotonic()
        library = near.large_library(40)
        for index in (0, 20, 39):
            self.assertEqual(len(shapes(library[index])), 132)
            found = alone(library, index)
            self.assertIn(shortest(library, index), found)
            self.assertLess(len(widest_alone(library, index)), len(found))
        self.assertLess(time.monotonic() - start, 10)

    def test_returned_lists_are_new(self):
        for function, arguments in ((shapes, (THREE,)), (alone, (SHELF, 0)), (widest_alone, (SHELF, 0))):
            first, second = function(*arguments), function(*arguments)
            first.clear()
            self.assertEqual(second, function(*arguments))
            self.assertNotEqual(second, [])

    def test_wrong_arguments(self):
        for function in (alone, widest_alone, shortest):
            for value in WRONG_LIBRARIES:
                self.assertRaises(InvalidLibrary, function, value, 0)
            for value in samples.spoiled_indexes(SHELF):
                self.assertRaises(InvalidIndex, function, SHELF, value)
            for value in STRANGE:
                self.assertRaises(InvalidIndex, function, SHELF, value)
            self.assertRaises(InvalidIndex, function, (), 0)

    def test_the_order_of_the_errors(self):
        for function in (alone, widest_alone, shortest):
            self.assertRaises(InvalidLibrary, function, None, None)
            self.assertRaises(InvalidLibrary, function, (WIND, WIND), 2)

    def test_arguments_by_name(self):
        for function in (alone, widest_alone, shortest):
            self.assertEqual(function(index=1, library=SHELF), function(SHELF, 1))
        self.assertEqual(shapes(source=WIND), shapes(WIND))


if __name__ == "__main__":
    unittest.main()
