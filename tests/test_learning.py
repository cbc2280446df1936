import functools
import inspect
import itertools
import time
import unittest

import near
import reading
import samples
from samples import LIBRARY, ONE, SHELF, STRANGE, STYLE, TIDES, WIND, replaced
from sourcelabels.errors import InvalidLibrary, InvalidNumber, InvalidStyle, InvalidTold
from sourcelabels.learning import count_styles, first_style, gives, styles_for
from sourcelabels.needs import labels
from sourcelabels.texts import parse_label, parse_library

WRONG_STYLES = list(STRANGE) + samples.spoiled_styles()
WRONG_LIBRARIES = list(STRANGE) + samples.spoiled_libraries()
WRONG_MOST = list(STRANGE) + [0, "1", 1.0, (1,), b"2"]

# Sources that are told apart by the title, by a given name, by a name and by their number of people.
NEAR = parse_library(["a ab, a b; 3; t", "a ab, a b; 3; u", "a ac, b b; 3; t", "a ab; 3; t", "a ab, a b, a c; 3; t"])
LIBRARIES = [
    (), NEAR[:1], NEAR[3:4], NEAR[1::-1], NEAR[3:], NEAR[:4:2], NEAR[2::-1], NEAR[::2], NEAR[4:1:-1], NEAR[1:], NEAR[::-1],
]

TOLD = [parse_label(text) for text in ("smith, brown, lee 2020", "smith, brown, king 2020", "smith 2020", "smith 2021")]


@functools.lru_cache(maxsize=None)
def all_styles(most):
    """All styles with at most this most, in the order of [32]."""
    return [(bound, kept, steps) for bound in range(1, most + 1) for kept in range(1, bound + 1)
            for steps in reading.all_steps()]


@functools.lru_cache(maxsize=None)
def styles_by_labels(library, most):
    """For each list of labels that a style gives to a library, as a tuple, the list of these styles."""
    by_paths = {}
    for style in all_styles(most):
        by_paths.setdefault(tuple([reading.path(style, source) for source in library]), []).append(style)
    found = {}
    for styles in by_paths.values():
        # What a style gives depends on the paths alone.
        found.setdefault(tuple(reading.labels(styles[0], library)), []).extend(styles)
    return {told: sorted(styles, key=order_of) for told, styles in found.items()}


def order_of(style):
    """[32]: by most, kept, the number of steps, the indexes of the steps."""
    most, kept, steps = style
    return (most, kept, len(steps), [reading.WORDS.index(word) for word in steps])


class AllStyles(unittest.TestCase):
    """[32] against all styles with most 1 and 2."""

    def check(self, library, told, most, expected):
        self.assertEqual(list(styles_for(library, told, most)), expected)
        self.assertEqual(first_style(library, told, most), (expected + [None])[0])
        self.assertEqual(count_styles(library, told, most), len(expected))

    def test_each_list_that_a_style_gives(self):
        for library in LIBRARIES:
            for k, (told, styles) in enumerate(styles_by_labels(library, 2).items()):
                most = 1 if k % 4 == 3 else 2
                self.check(library, list(told), most, [style for style in styles if style[0] <= most])

    def test_labels_of_two_lists(self):
        """Each label is given by some style; seldom all of them by the same one."""
        for library in LIBRARIES:
            known = styles_by_labels(library, 1)
            lists = list(known)
            for first, second in zip(lists, lists[3:] + lists[:3]):
                mixed = tuple([pair[k % 2] for k, pair in enumerate(zip(first, second))])
                self.check(library, list(mixed), 1, known.get(mixed, []))

    def test_gives(self):
        for library in LIBRARIES:
            known = styles_by_labels(library, 2)
            for told, styles in known.items():
                for style in styles[::997]:
                    self.assertIs(gives(style, library, list(told)), True)
                for style in all_styles(2)[len(told)::4001]:
                    self.assertIs(gives(style, library, list(told)), style in styles)

    def test_styles_of_most_three(self):
        library = NEAR[::2]
        told = labels((3, 2, ("given", "names")), library)
        expected = [(3, 2, steps) for steps in reading.all_steps() if labels((3, 2, steps), library) == told]
        found = list(styles_for(library, told, 3))
        self.assertEqual([style for style in found if style[:2] == (3, 2)], expected)
        self.assertEqual(found, sorted(found, key=order_of))
        self.assertEqual([style for style in found if style[0] <= 2], list(styles_for(library, told, 2)))


class Learning(unittest.TestCase):
    """gives, styles_for, first_style and count_styles of [32]."""

    def test_ordinary_labels(self):
        self.assertIs(gives(STYLE, SHELF, TOLD), True)
        self.assertIs(gives((1, 1, ()), SHELF, TOLD), False)
        self.assertEqual(first_style(SHELF, TOLD, 2), (1, 1, ("names",)))
        self.assertIn(STYLE, list(styles_for(SHELF, TOLD, 2)))

    def test_the_order_of_the_labels_counts(self):
        self.assertIs(gives(STYLE, SHELF, TOLD[::-1]), False)
        self.assertIs(gives(STYLE, SHELF[::-1], TOLD[::-1]), True)
        self.assertIsNone(first_style(SHELF, TOLD[::-1], 2))

    def test_the_empty_library(self):
        self.assertIs(gives(STYLE, (), []), True)
        self.assertEqual(list(styles_for((), [], 1)), all_styles(1))
        self.assertEqual([first_style((), [], 2), count_styles((), [], 2)], [(1, 1, ()), len(all_styles(2))])

    def test_labels_that_no_style_gives(self):
        for text in ("smith 2021", "lee 2020", 'smith 2020 "on tides"', "smith et al. 2020", "j. smith 2020", "smith 2020a"):
            told = [parse_label(text)]
            self.assertIs(gives(STYLE, (WIND,), told), False)
            self.assertEqual([list(styles_for((WIND,), told, 2)), first_style((WIND,), told, 2)], [[], None])
            self.assertEqual(count_styles((WIND,), told, 2), 0)

    def test_wrong_letters(self):
        library = parse_library(["a b; 3; u", "a b; 3; t", "a b; 3; v"])
        for letters in itertools.product(("", "a", "b", "c", "d", "aa"), repeat=3):
            told = [parse_label("b. a 3" + told) for told in letters]
            many = count_styles(library, told, 1)
            self.assertEqual(many > 0, letters == ("b", "a", "c"))
            self.assertIs(gives((1, 1, ("initials",)), library, told), letters == ("b", "a", "c"))

    def test_letters_for_a_label_that_stands_alone(self):
        for source, text in ((WIND, "smith 2020"), (TIDES, "smith et al. 2020")):
            self.assertGreater(count_styles((source,), [parse_label(text)], 1), 0)
            self.assertEqual(count_styles((source,), [parse_label(text + "a")], 1), 0)

    def test_a_source_that_alone_has_letters(self):
        library = parse_library(["a b, a b; 3; t", "a b, a b, a c; 3; t"])
        told = labels((2, 1, ("first initial",)), library)
        self.assertEqual(told, [parse_label("a, a 3"), parse_label("b. a et al. 3a")])
        self.assertEqual(list(styles_for(library, told, 2)), styles_by_labels(library, 2)[tuple(told)])

    def test_several_styles_in_the_told_order(self):
        told = [parse_label("j. smith 2020"), parse_label("a. smith 2020")]
        found = list(styles_for(parse_library(["smith jo; 2020; a", "smith al; 2020; a"]), told, 2))
        self.assertEqual(found[:4], [(1, 1, ("first initial",)), (1, 1, ("initials",)), (1, 1, ("names", "first initial")),
                                     (1, 1, ("names", "initials"))])
        self.assertEqual(found, sorted(found, key=order_of))
        self.assertEqual(len(set(found)), len(found))

    def test_styles_for_is_a_generator(self):
        found = styles_for((), [], 10 ** 39)
        self.assertTrue(inspect.isgenerator(found))
        self.assertEqual([next(found), next(found)], [(1, 1, ()), (1, 1, ("names",))])
        self.assertEqual(first_style((), [], 10 ** 39), (1, 1, ()))

    def test_arguments_do_not_change(self):
        told = list(TOLD)
        list(styles_for(SHELF, told, 2))
        gives(STYLE, SHELF, told)
        self.assertEqual(told, TOLD)

    def test_at_the_limits(self):
        start = time.monotonic()
        people = tuple([("a", "b")] * 7)
        library = tuple([(people + (("a", given),), 10 ** 39, title)
                         for given, title in (("b", "t"), ("b", "u"), ("bc", "t"), ("c", "t"), ("c", "u"))])
        for style in ((2, 1, reading.WORDS), (1, 1, ()), (2, 2, ("all", "initials", "given")), (2, 1, reading.WORDS[::-1])):
            told = labels(style, library)
            self.assertIn(style, list(styles_for(library, told, 2)))
            self.assertGreater(count_styles(library, told, 2), 0)
        large = near.large_library(5)
        self.assertGreater(count_styles(large, labels((2, 1, ("given", "title", "names")), large), 2), 0)
        self.assertLess(time.monotonic() - start, 20)


class WrongArguments(unittest.TestCase):
    """The errors of [32]."""

    SEARCHES = (lambda *told: list(styles_for(*told)), first_style, count_styles)

    def wrong_lists(self):
        found = [TOLD[:3], TOLD + TOLD[:1], [], tuple(TOLD), "smith 2020", None, {0: 1}, iter(TOLD), [TOLD]]
        found += [[value] + TOLD[1:] for value in STRANGE] + [TOLD[:3] + [value] for value in samples.spoiled_labels()]
        return found + [value for value in STRANGE if value != []]

    def test_libraries(self):
        for value in WRONG_LIBRARIES:
            self.assertRaises(InvalidLibrary, gives, STYLE, value, TOLD)
            for function in self.SEARCHES:
                self.assertRaises(InvalidLibrary, function, value, TOLD, 2)

    def test_styles(self):
        for value in WRONG_STYLES:
            self.assertRaises(InvalidStyle, gives, value, SHELF, TOLD)

    def test_lists(self):
        for value in self.wrong_lists():
            self.assertRaises(InvalidTold, gives, STYLE, SHELF, value)
            for function in self.SEARCHES:
                self.assertRaises(InvalidTold, function, SHELF, value, 2)
        for value in ([ONE], (), None):
            self.assertRaises(InvalidTold, gives, STYLE, (), value)

    def test_numbers(self):
        for value in WRONG_MOST:
            for function in self.SEARCHES:
                self.assertRaises(InvalidNumber, function, SHELF, TOLD, value)

    def test_the_order_of_the_errors(self):
        self.assertRaises(InvalidStyle, gives, None, None, None)
        self.assertRaises(InvalidLibrary, gives, STYLE, (WIND, WIND), None)
        for function in self.SEARCHES:
            self.assertRaises(InvalidLibrary, function, None, None, None)
            self.assertRaises(InvalidTold, function, SHELF, TOLD[:1], 0)
            self.assertRaises(InvalidNumber, function, SHELF, TOLD[::-1], 0)

    def test_the_generator_raises_at_its_call_or_first_value(self):
        with self.assertRaises(InvalidTold):
            next(styles_for(LIBRARY, TOLD + TOLD, 2))

    def test_arguments_by_name(self):
        self.assertIs(gives(told=TOLD, library=SHELF, style=STYLE), True)
        self.assertEqual(next(styles_for(most=2, told=TOLD, library=SHELF)), (1, 1, ("names",)))
        self.assertEqual(first_style(most=2, told=TOLD, library=SHELF), (1, 1, ("names",)))
        self.assertEqual(count_styles(most=2, told=TOLD, library=SHELF), len(list(styles_for(SHELF, TOLD, 2))))
        self.assertIs(gives(STYLE, SHELF, [replaced(TOLD[0], 4, "a")] + TOLD[1:]), False)


if __name__ == "__main__":
    unittest.main()
