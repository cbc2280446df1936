import functools
import itertools
import time
import unittest

import near
import reading
import samples
from samples import LATER, SHELF, STRANGE, STYLE, THREE, TIDES, WAVES, WIND
from sourcelabels.errors import InvalidLibrary, InvalidOrder, InvalidStyle
from sourcelabels.orders import fewest_old, good_order, old_in
from sourcelabels.texts import parse_library

WRONG_STYLES = list(STRANGE) + samples.spoiled_styles()
WRONG_LIBRARIES = list(STRANGE) + samples.spoiled_libraries()

BARE = (1, 1, ())
SAME = parse_library(["smith jo; 2020; c", "smith jo; 2020; a", "smith jo; 2020; b"])

# By initials and given names, the first two lead to one another and to the others.
LOT = parse_library(["a aa; 3; t", "a ab; 3; t", "a ba; 3; t", "a ca; 3; t"])

# The first two lead to one another; the third, which shows all of its people and is fitted by their first labels, leads
# both and has its first label.
LED = parse_library(["a b, a b, a b, a b; 3; t", "a b, a b, a b, a b; 3; u", "a b, a b; 3; v"])

# The last two lead to one another by their titles. The third leads the first two, too, which lead to one another.
LOTS = parse_library(["a aa; 3; t", "a ab; 3; t", "a ac; 3; t", "a ac; 3; u"])


@functools.lru_cache(maxsize=None)
def label_at_coming(style, source, ahead):
    """A label without letters in the library of some sources and, behind them, the one that comes"""
    return reading.labels(style, ahead + (source,))[-1][:4]


def read_old(style, library, order):
    """The list of [25]"""
    final = [label[:4] for label in reading.labels(style, library)]
    old = []
    for rank, index in enumerate(order):
        # The order of those ahead does not count for labels without letters; it is sorted to know more of them.
        ahead = tuple([library[k] for k in sorted(order[:rank])])
        if label_at_coming(style, library[index], ahead) != final[index]:
            old.append(index)
    return sorted(old)


def small_cases(most):
    """Pairs of a style and a library of at most so many sources that are near one another."""
    return [(style, library) for style, library in near.cases() if len(library) <= most]


class OldIn(unittest.TestCase):
    """old_in of [25]."""

    def test_the_first_of_two_grows_old(self):
        self.assertEqual(old_in(STYLE, SHELF, [0, 1, 2, 3]), [0])
        self.assertEqual(old_in(STYLE, SHELF, [1, 0, 2, 3]), [1])
        self.assertEqual(old_in(STYLE, SHELF, [3, 2, 1, 0]), [1])

    def test_no_source_is_old(self):
        for order in itertools.permutations(range(3)):
            self.assertEqual(old_in(STYLE, SHELF[1:], list(order)), [])
        self.assertEqual(old_in(STYLE, (TIDES,), [0]), [])
        self.assertEqual(old_in(STYLE, (), []), [])

    def test_letters_are_left_out(self):
        for order in itertools.permutations(range(3)):
            self.assertEqual(old_in(BARE, SAME, list(order)), [])
            self.assertEqual(old_in((1, 1, ("initials",)), SAME, list(order)), [order[0]])

    def test_several_old_sources(self):
        style = (1, 1, ("first initial", "first given"))
        self.assertEqual([old_in(style, LOT, order) for order in ([0, 1, 2, 3], [2, 0, 3, 1], [3, 2, 0, 1])],
                         [[0], [0, 2], [0, 3]])

    def test_word_by_word(self):
        for k, (style, library) in enumerate(near.cases()):
            indexes = list(range(len(library)))
            turned = indexes[k % 3:] + indexes[:k % 3]
            for order in (indexes, indexes[::-1], turned, turned[::2] + turned[1::2]):
                self.assertEqual(old_in(style, library, order), read_old(style, library, order))

    def test_all_orders(self):
        for style, library in small_cases(4)[::5]:
            for order in itertools.permutations(range(len(library))):
                self.assertEqual(old_in(style, library, list(order)), read_old(style, library, order))


class GoodOrder(unittest.TestCase):
    """fewest_old and good_order of [25], and what [26] says of them."""

    def check(self, style, library, many):
        order = good_order(style, library)
        self.assertIs(type(order), list)
        self.assertEqual(sorted(order), list(range(len(library))))
        self.assertEqual(fewest_old(style, library), many)
        self.assertEqual(len(read_old(style, library, order)), many, (style, library, order))

    def test_no_source_is_old(self):
        self.check(STYLE, (), 0)
        self.check(STYLE, (TIDES,), 0)
        self.check(STYLE, (WAVES, WIND, LATER), 0)
        self.check(BARE, SAME, 0)
        self.assertEqual([good_order(STYLE, ()), good_order(STYLE, (TIDES,))], [[], [0]])

    def test_a_lot_that_no_other_source_leads(self):
        self.check(STYLE, SHELF, 1)
        self.check(STYLE, (THREE, WAVES), 1)
        self.check((1, 1, ("title",)), SAME, 1)
        self.check((1, 1, ("first initial", "first given")), LOT, 1)
        self.assertIn(good_order((1, 1, ("first initial", "first given")), LOT)[0], (0, 1))

    def test_a_lot_that_a_source_with_its_first_label_leads(self):
        style = (3, 1, ("title",))
        self.check(style, LED[:2], 1)
        self.check(style, LED, 0)
        self.assertEqual(good_order(style, LED)[0], 2)

    def test_a_lot_that_another_lot_leads(self):
        style = (1, 1, ("first initial", "first given", "title"))
        self.check(style, LOTS[:2], 1)
        self.check(style, LOTS[2:], 1)
        self.check(style, LOTS, 1)
        self.assertIn(good_order(style, LOTS)[0], (2, 3))

    def test_a_source_that_a_lot_leads_is_in_none(self):
        """It has as many sources ahead of it as those of the lot, but must not be the first one to come."""
        style = (1, 1, ("first initial", "first given"))
        library = parse_library(["a c; 3; t", "a aa; 3; t", "a ab; 3; t"])
        for turned in itertools.permutations(library):
            self.check(style, turned, 1)

    def test_lots_by_themselves(self):
        library = parse_library(["b b; 3; t", "a b; 3; u", "a b; 3; t", "b c; 3; v"])
        self.check((1, 1, ("title",)), library, 2)

    def test_lots_of_two_years(self):
        library = parse_library([f"a b; {year}; {title}" for title in "tuv" for year in (3, 4, 5)] + ["a b; 6; t"])
        self.check((1, 1, ("title",)), library, 3)
        self.check((1, 1, ("given",)), library, 3)
        self.check((1, 1, ("names", "all")), library, 0)

    def test_all_orders_of_small_libraries(self):
        counts = {}
        for style, library in small_cases(5):
            orders = itertools.permutations(range(len(library)))
            many = min([len(read_old(style, library, order)) for order in orders])
            counts[many] = counts.get(many, 0) + 1
            self.check(style, library, many)
        self.assertEqual(sorted(counts), [0, 1, 2])

    def test_all_orders_of_libraries_of_six_sources(self):
        for style, library in [case for case in near.cases() if len(case[1]) == 6][::9]:
            orders = itertools.permutations(range(6))
            self.check(style, library, min([len(read_old(style, library, order)) for order in orders]))

    def test_at_the_limits(self):
        start = time.monotonic()
        library = near.large_library(40)
        for style in near.LARGE_STYLES:
            order = good_order(style, library)
            self.assertEqual(sorted(order), list(range(40)))
            self.assertEqual(len(old_in(style, library, order)), fewest_old(style, library))
            self.assertLessEqual(fewest_old(style, library), len(old_in(style, library, list(range(40)))))
        self.assertLess(time.monotonic() - start, 20)

    def test_one_source_behind_the_other(self):
        """Each source of a long row leads the next one alone."""
        people = ["a a" + ", b b" * many for many in range(1, 40)]
        library = parse_library([f"{told}; 3; t" for told in people])[::-1]
        style = (39, 1, ("names",))
        self.check(style, library[20:], fewest_old(style, library[20:]))
        self.assertEqual(len(old_in(style, library, good_order(style, library))), fewest_old(style, library))

    def test_returned_lists_are_new(self):
        for function, arguments in ((good_order, (STYLE, SHELF)), (old_in, (STYLE, SHELF, [0, 1, 2, 3]))):
            first, second = function(*arguments), function(*arguments)
            first.append(7)
            self.assertEqual(second, function(*arguments))
            self.assertNotIn(7, second)


class WrongArguments(unittest.TestCase):
    """The errors of [25]."""

    def test_styles_and_libraries(self):
        for function, more in ((old_in, ([0, 1, 2, 3],)), (fewest_old, ()), (good_order, ())):
            for value in WRONG_STYLES:
                self.assertRaises(InvalidStyle, function, value, SHELF, *more)
            for value in WRONG_LIBRARIES:
                self.assertRaises(InvalidLibrary, function, STYLE, value, *more)

    def test_orders(self):
        wrong = [
            [], [0], [0, 1, 2], [0, 1, 2, 3, 4], [0, 1, 2, 4], [1, 2, 3, 4], [0, 0, 1, 2], [0, 1, 2, 3, 3], [0, 1, 2, -1],
            (0, 1, 2, 3), "0123", {0: 1, 1: 1, 2: 1, 3: 1}, {0, 1, 2, 3}, range(4), [[0, 1, 2, 3]], [0, True, 2, 3],
            [False, 1, 2, 3], [0, 1, 2, None], [0, 1, 2, "3"], [0, 1, 2, 3.0], [0, 1, 2, [3]], [0, 1, 2, 10 ** 39], 4,
            list(SHELF), [0, 1, 2, samples.EqualToAll()],
        ]
        for value in wrong + list(STRANGE):
            self.assertRaises(InvalidOrder, old_in, STYLE, SHELF, value)
        for value in ([0], (), None, [None]):
            self.assertRaises(InvalidOrder, old_in, STYLE, (), value)

    def test_the_order_of_the_errors(self):
        self.assertRaises(InvalidStyle, old_in, None, None, None)
        self.assertRaises(InvalidStyle, old_in, None, SHELF, None)
        self.assertRaises(InvalidLibrary, old_in, STYLE, (WIND, WIND), None)
        for function in (fewest_old, good_order):
            self.assertRaises(InvalidStyle, function, None, None)

    def test_arguments_by_name(self):
        self.assertEqual(old_in(order=[1, 0, 2, 3], library=SHELF, style=STYLE), [1])
        self.assertEqual(fewest_old(library=SHELF, style=STYLE), 1)
        self.assertEqual(good_order(library=SHELF, style=STYLE), good_order(STYLE, SHELF))


if __name__ == "__main__":
    unittest.main()
