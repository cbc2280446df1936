import functools
import itertools
import random
import time
import unittest

import near
import reading
import samples
from samples import LIBRARY, SHELF, STRANGE, STYLE, TIDES, WIND
from sourcelabels.alike import (
    alike, alike_behind, difference, idle_steps, least_apart, longer_library, never_longer, trimmed,
)
from sourcelabels.errors import InvalidLibrary, InvalidNumber, InvalidStyle
from sourcelabels.sources import is_library
from sourcelabels.styles import is_style
from sourcelabels.texts import parse_library

WRONG_STYLES = list(STRANGE) + samples.spoiled_styles()
WRONG_LIBRARIES = list(STRANGE) + samples.spoiled_libraries()
WRONG_PEOPLE = [value for value in STRANGE if value is not None] + [0, -1, -10 ** 39, "1", 1.0, (1,), [1], b"1"]

# All styles of at most two steps, with three bounds.
FEW = [(most, kept, steps) for most, kept in ((1, 1), (2, 1), (2, 2))
       for steps in reading.all_steps() if len(steps) <= 2]

PERSONS = (("a", "aa"), ("a", "ab"), ("a", "b"), ("b", "aa"))


def without(style, index):
    return (*style[:2], style[2][:index] + style[2][index + 1:])


@functools.lru_cache(maxsize=None)
def few_libraries(people):
    """All libraries of one or two of the sources by one or two people with few names and two titles."""
    told = list(itertools.product(PERSONS[:3])) + list(itertools.product(PERSONS[:3], PERSONS))
    sources = [(one, 3, title) for one in told if len(one) <= people for title in "tu"]
    return [library for many in (1, 2) for library in itertools.combinations(sources, many)]


@functools.lru_cache(maxsize=None)
def read_labels(style, library):
    return tuple(reading.labels(style, library))


@functools.lru_cache(maxsize=None)
def all_labels(style, people):
    """For each of the libraries, its labels by a style."""
    return tuple([read_labels(style, library) for library in few_libraries(people)])


def bare(label):
    return label[:4] + ("",)


@functools.lru_cache(maxsize=None)
def is_at_most(label, other, source):
    """[29]: whether each of the sources around that the other label fits is also fitted by the first one"""
    return all([reading.fits(label, met) for met in near.around(source) if reading.fits(other, met)])


@functools.lru_cache(maxsize=None)
def levels(label, source):
    """What a label of a source shows: for each person 0 for nothing, 1 for the family, 2 and 3 for more; the title"""
    shown, _, _, title, _ = label
    found = [1 + ["", given[0] + ".", given].index(part) for (_, part), (_, given) in zip(shown, source[0])]
    return found + [0] * (len(source[0]) - len(shown)) + [title is not None]


@functools.lru_cache(maxsize=None)
def is_less_shown(label, other, source):
    """As is_at_most, for two labels of one source, also where there are too many sources around"""
    return all([level <= met for level, met in zip(levels(label, source), levels(other, source))])


def says_too_much(style, other, library, compare=is_at_most):
    """Whether some label by style does not say at most as much, letters left out"""
    pairs = zip(read_labels(style, library), read_labels(other, library), library)
    return any([not compare(bare(label), bare(met), source) for label, met, source in pairs])


def most_people(library):
    return max([len(source[0]) for source in library])


def pairs_of(styles, step):
    """Each style with itself and with each step-th other one."""
    found = [(style, style) for style in styles]
    return found + [pair for k, pair in enumerate(itertools.permutations(styles, 2)) if k % step == 0]


class Checks(unittest.TestCase):
    """What alike, difference, never_longer and longer_library have to tell together."""

    def check_alike(self, style, other, people, expected):
        told = (style, other, people)
        self.assertIs(alike(*told), expected, told)
        library = difference(*told)
        if expected:
            self.assertIsNone(library)
            return
        self.check_library(library, people)
        self.assertNotEqual(read_labels(style, library), read_labels(other, library), told)
        if len(library) == 2:
            # A source alone has the first label of its path.
            for many in range(1, min(people or 99, max(style[0], other[0]) + 5) + 1):
                self.assertEqual(reading.states(style, many)[0], reading.states(other, many)[0], told)

    def check_longer(self, style, other, people, expected):
        told = (style, other, people)
        self.assertIs(never_longer(*told), not expected, told)
        library = longer_library(*told)
        if not expected:
            self.assertIsNone(library)
            return
        self.check_library(library, people)
        self.assertTrue(says_too_much(style, other, library, is_less_shown), told)
        if len(library) == 2:
            for many in range(1, min(people or 99, max(style[0], other[0]) + 5) + 1):
                self.assertLessEqual(reading.states(style, many)[0], reading.states(other, many)[0], told)

    def check_library(self, library, people):
        self.assertTrue(is_library(library))
        self.assertIn(len(library), (1, 2))
        self.assertLessEqual(most_people(library), people or 99)


class SmallLibraries(Checks):
    """[27] and [29] against all libraries of at most two sources of few names."""

    def check_pair(self, style, other):
        for people in (1, 2):
            same = all_labels(style, people) == all_labels(other, people)
            self.check_alike(style, other, people, same)
            libraries = few_libraries(people)
            longer = not same and any([says_too_much(style, other, library) for library in libraries])
            self.check_longer(style, other, people, longer)

    def test_all_styles_of_at_most_one_step(self):
        for style, other in itertools.product([style for style in FEW if len(style[2]) <= 1], repeat=2):
            self.check_pair(style, other)

    def test_styles_of_two_steps(self):
        for style, other in pairs_of(FEW, 23):
            self.check_pair(style, other)

    def test_all_styles_of_two_steps_that_are_alike(self):
        for people in (1, 2):
            groups = {}
            for style in FEW:
                groups.setdefault(all_labels(style, people), []).append(style)
            firsts = [group[0] for group in groups.values()]
            self.assertLess(len(firsts), len(FEW))
            for group in groups.values():
                for style in group:
                    self.check_alike(group[0], style, people, True)
                    self.check_longer(style, group[0], people, False)
            for style, other in itertools.combinations(firsts, 2):
                self.assertIs(alike(style, other, people), False)

    def test_what_a_label_shows_is_what_it_says(self):
        """The other checks compare what labels show; it has to be the same as [29]."""
        for source in few_libraries(2)[-1] + (((("a", "b"), ("c", "d"), ("e", "f")), 3, "t"),):
            states = [(k, first, rest, title) for k in range(1, len(source[0]) + 1)
                      for first in range(3) for rest in range(3) for title in (False, True)]
            labels = [reading.label_in(state, source) for state in states]
            for label, other in itertools.product(labels, repeat=2):
                self.assertEqual(is_less_shown(label, other, source), is_at_most(label, other, source))


class LargeSources(Checks):
    """[27] and [29] against libraries of two sources by more people."""

    MORE = 8

    def sources(self):
        return [(tuple([(chr(97 + k), "g") for k in range(many)]), 3, "t") for many in range(1, self.MORE)]

    def indexes(self, style):
        """The index of the label of each source in each library of it and one of the strangers, None for the last."""
        found = []
        for source in self.sources():
            path = reading.path(style, source)
            for other in near.strangers(source):
                at = reading.need(style, source, other)
                found.append((path[-1] if at is None else path[at], at is None))
        return found

    def test_all_numbers_of_people(self):
        libraries = [(source, other) for source in self.sources() for other in near.strangers(source)]
        styles = near.styles()[::2] + [(3, 3, ("names",)), (3, 3, ("all",)), (3, 2, ("names", "title"))]
        told = {style: self.indexes(style) for style in styles}
        for style, other in pairs_of(styles, 2):
            rows = list(zip(libraries, told[style], told[other]))
            unlike = [most_people(library) for library, label, met in rows if label != met]
            longer = [most_people(library) for library, (label, _), (met, _) in rows
                      if label != met and not is_less_shown(label, met, library[0])]
            for people in (1, 2, 3, 4, 6, self.MORE, 10 ** 39, None):
                limit = people or self.MORE
                self.check_alike(style, other, people, not [many for many in unlike if many <= limit])
                self.check_longer(style, other, people, bool([many for many in longer if many <= limit]))
            self.assertEqual(least_apart(style, other), min(unlike, default=None))

    def test_each_is_never_longer_only_if_they_are_alike(self):
        for style, other in pairs_of(near.styles() + FEW[::7], 9):
            for people in (1, 3, None):
                both = never_longer(style, other, people) and never_longer(other, style, people)
                self.assertIs(both, alike(style, other, people))


class Alike(Checks):
    """alike, difference and least_apart of [27] and [28]."""

    def test_the_same_style(self):
        for style in FEW + near.styles():
            self.check_alike(style, style, None, True)
            self.assertIsNone(least_apart(style, style))

    def test_other_steps(self):
        for steps, others in (
            (("given",), [("given", "initials"), ("given", "first given"), ("given", "first initial", "first given")]),
            (("names",), [("names", "all")]),
            (("all", "title"), [("all", "names", "title"), ("all", "title", "names")]),
            (("initials", "title"), [("initials", "first initial", "title"), ("initials", "title", "first initial")]),
        ):
            for other in others:
                self.check_alike((2, 1, steps), (2, 1, other), None, True)

    def test_the_order_of_steps_counts(self):
        for steps in (("title", "given"), ("names", "title"), ("first initial", "initials"), ("all", "first given")):
            self.check_alike((2, 1, steps), (2, 1, steps[::-1]), None, False)

    def test_alike_for_so_many_people_and_not_for_more(self):
        for most, kept, least in ((1, 1, 3), (2, 1, 3), (2, 2, 4), (3, 1, 4), (3, 3, 5), (12, 12, 14), (12, 11, 13)):
            style, other = (most, kept, ("names",)), (most, kept, ("all",))
            self.assertEqual(least_apart(style, other), least)
            for people in (1, 2, least - 1):
                self.check_alike(style, other, people, people < least)
            for people in (least, least + 1, 10 ** 39, None):
                self.check_alike(style, other, people, False)

    def test_what_is_seen_only_behind_more_names(self):
        style, other = (1, 1, ("initials", "all")), (1, 1, ("first initial", "all"))
        self.assertEqual(least_apart(style, other), 2)
        self.check_alike(style, other, 1, True)
        self.check_alike((1, 1, ("initials",)), (1, 1, ("first initial",)), None, True)
        self.check_alike((2, 1, ("initials",)), (2, 1, ("first initial",)), None, False)

    def test_a_least_library_of_one_source(self):
        style, other = (1, 1, ("all",)), (2, 1, ("all",))
        self.assertEqual(len(difference(style, other)), 1)
        self.assertEqual(len(difference(style, other, 2)), 1)
        self.check_alike(style, other, 1, True)
        self.assertEqual(len(difference((12, 1, ()), (12, 2, ()))), 1)
        self.assertEqual(least_apart((12, 1, ()), (12, 2, ())), 13)

    def test_a_least_library_of_one_source_by_more_people_than_two_would_need(self):
        style, other = (1, 1, ("title",)), (2, 1, ("given",))
        self.assertEqual([least_apart(style, other), len(difference(style, other, 1))], [1, 2])
        self.assertEqual([len(difference(style, other, people)) for people in (2, 3, None)], [1, 1, 1])

    def test_a_least_library_of_two_sources(self):
        for style, other in (((2, 1, ()), (2, 1, ("title",))), ((2, 1, ("given",)), (2, 1, ("initials", "given")))):
            for people in (1, 2, None):
                self.assertEqual(len(difference(style, other, people)), 2)
                self.check_alike(style, other, people, False)

    def test_labels_that_are_equal_again_later(self):
        style, other = (1, 1, ("first initial", "title", "given")), (1, 1, ("title", "first initial", "given"))
        self.check_alike(style, other, None, False)
        self.check_alike((1, 1, ("title", "given")), (1, 1, ("given", "title")), 1, False)

    def tails(self, style, library):
        """The labels of each source from its place on."""
        return [reading.path(style, source)[-1 if at is None else at:]
                for source, at in zip(library, reading.places(style, library))]

    def test_at_the_limits(self):
        start = time.monotonic()
        library = near.large_library(40)
        styles = [(12, 1, reading.WORDS), (12, 12, reading.WORDS[::-1]), (1, 1, reading.WORDS), (12, 6, ("all",))]
        for style, other in itertools.product(styles, repeat=2):
            self.check_alike(style, other, None, style == other)
            self.check_longer(style, other, 10 ** 39, longer_library(style, other) is not None)
            self.assertIs(alike_behind(style, other, library), self.tails(style, library) == self.tails(other, library))
        for style in styles:
            self.assertEqual(idle_steps(trimmed(style)), [])
        self.assertLess(time.monotonic() - start, 20)


class Steps(unittest.TestCase):
    """idle_steps and trimmed of [28]."""

    def test_steps_that_can_be_left_out(self):
        self.assertEqual(idle_steps((3, 1, ("names", "all", "title", "given", "initials"))), [1, 4])
        self.assertEqual(trimmed((3, 1, ("names", "all", "title", "given", "initials"))),
                         (3, 1, ("names", "title", "given")))

    def test_no_step_can_be_left_out(self):
        for style in (STYLE, (1, 1, ()), (3, 1, ("names", "first initial")), (2, 2, ("title", "initials", "given"))):
            self.assertEqual(idle_steps(style), [])
            self.assertEqual(trimmed(style), style)

    def test_steps_that_can_be_left_out_alone_but_not_together(self):
        style = (1, 1, ("first initial", "initials"))
        self.assertEqual([idle_steps(style), trimmed(style)], [[0, 1], (1, 1, ("first initial",))])
        style = (1, 1, ("initials", "title", "first initial"))
        self.assertEqual([idle_steps(style), trimmed(style)], [[2], (1, 1, ("initials", "title"))])
        style = (1, 1, ("given", "first given", "title"))
        self.assertEqual([idle_steps(style), trimmed(style)], [[0, 1], (1, 1, ("given", "title"))])

    def test_for_at_most_so_many_people(self):
        style = (1, 1, ("all", "names"))
        self.assertEqual([idle_steps(style, people) for people in (1, 2, 3, None)], [[0, 1], [0, 1], [1], [1]])
        self.assertEqual([trimmed(style, people)[2] for people in (1, 2, 3, None)], [(), ("all",), ("all",), ("all",)])
        style = (2, 1, ("first initial", "initials", "first given", "given"))
        self.assertEqual([idle_steps(style, people) for people in (1, 2, None)], [[0, 1, 2, 3], [], []])
        self.assertEqual(trimmed(style, 1), (2, 1, ("first initial", "first given")))

    def test_each_step_by_itself(self):
        for style in near.styles() + FEW[::3]:
            for people in (1, 2, None):
                expected = [k for k in range(len(style[2])) if alike(style, without(style, k), people)]
                self.assertEqual(idle_steps(style, people), expected)

    def test_one_step_behind_the_other(self):
        for style in near.styles() + FEW[::3]:
            for people in (1, 2, None):
                left = style
                for index in range(len(style[2]) - 1, -1, -1):
                    if alike(style, without(left, index), people):
                        left = without(left, index)
                told = trimmed(style, people)
                self.assertEqual(told, left)
                self.assertTrue(is_style(told))
                self.assertEqual([alike(told, style, people), idle_steps(told, people)], [True, []])

    def test_the_trimmed_style_gives_the_same_labels(self):
        for style, library in near.cases()[::3]:
            self.assertEqual(read_labels(trimmed(style), library), read_labels(style, library))

    def test_returned_lists_are_new(self):
        style = (1, 1, ("first initial", "initials"))
        first, second = idle_steps(style), idle_steps(style)
        first.append(9)
        self.assertEqual([second, idle_steps(style)], [[0, 1], [0, 1]])


class Longer(Checks):
    """never_longer and longer_library of [29]."""

    def test_a_style_that_says_less(self):
        for style, other in (
            ((1, 1, ()), (1, 1, ("title",))), ((1, 1, ("names",)), (1, 1, ("all",))), ((1, 1, ()), (2, 1, ())),
            ((2, 1, ("initials",)), (2, 1, ("given",))), ((3, 1, ("first given",)), (3, 1, ("given",))),
            ((1, 1, ("initials", "given")), (1, 1, ("given",))),
        ):
            self.check_longer(style, other, None, False)
            self.check_longer(other, style, None, True)

    def test_neither_says_less(self):
        for steps in (("title", "given"), ("names", "title"), ("all", "first given")):
            self.check_longer((2, 1, steps), (2, 1, steps[::-1]), None, True)
            self.check_longer((2, 1, steps[::-1]), (2, 1, steps), None, True)

    def test_each_of_two_styles(self):
        style, other = (1, 1, ("first initial", "initials")), (1, 1, ("initials",))
        self.check_longer(style, other, None, False)
        self.check_longer(other, style, None, False)
        self.assertIs(alike(style, other), True)

    def test_for_at_most_so_many_people(self):
        style, other = (3, 1, ("all",)), (3, 1, ("names",))
        for people, longer in ((1, False), (3, False), (4, True), (5, True), (10 ** 39, True), (None, True)):
            self.check_longer(style, other, people, longer)

    def test_a_least_library_of_one_source(self):
        style, other = (2, 1, ("title",)), (1, 1, ())
        self.assertEqual([len(longer_library(style, other, people)) for people in (1, 2, 3, None)], [2, 1, 1, 1])
        self.assertEqual(len(longer_library((5, 3, ()), (4, 2, ()))), 1)

    def test_letters_are_left_out(self):
        library = parse_library(["a b; 3; t", "a b; 3; u"])
        style, other = (1, 1, ()), (1, 1, ("title",))
        self.assertFalse(says_too_much(style, other, library))
        self.assertIs(never_longer(style, other), True)


class Behind(unittest.TestCase):
    """alike_behind of [30]."""

    def labels_without_letters(self, style, library, many):
        return [bare(label) for label in read_labels(style, library)[:many]]

    def is_same(self, style, other, library, guests):
        many = len(library)
        told = library + guests
        return self.labels_without_letters(style, told, many) == self.labels_without_letters(other, told, many)

    def test_styles_that_are_alike(self):
        style = (3, 1, ("names", "all", "title", "given", "initials"))
        for library in ((), LIBRARY, SHELF, (WIND,)):
            self.assertIs(alike_behind(style, trimmed(style), library), True)
            self.assertIs(alike_behind(style, style, library), True)

    def test_the_empty_library(self):
        for style, other in pairs_of(FEW, 97):
            self.assertIs(alike_behind(style, other, ()), True)

    def test_styles_that_are_not_alike_otherwise(self):
        style, other = (1, 1, ("first initial", "first given")), (1, 1, ("first given",))
        library = parse_library(["smith jo; 2020; a", "smith jack; 2020; a"])
        self.assertIs(alike(style, other), False)
        self.assertIs(alike_behind(style, other, library), True)
        self.assertIs(alike_behind(style, other, library[:1]), False)
        self.assertIs(alike_behind(style, other, library + parse_library(["lee jo; 2020; a"])), False)

    def test_labels_that_are_the_same_only_for_now(self):
        style, other = (1, 1, ("title",)), (1, 1, ("given", "title"))
        for library in ((WIND,), (TIDES,), LIBRARY[2:]):
            self.assertTrue(self.is_same(style, other, library, ()))
            self.assertIs(alike_behind(style, other, library), False)

    def test_labels_that_are_others_already(self):
        self.assertIs(alike_behind((1, 1, ()), (2, 1, ()), (TIDES,)), False)
        self.assertIs(alike_behind((1, 1, ()), (2, 1, ()), (WIND,)), True)

    def test_labels_with_letters(self):
        library = parse_library(["smith jo; 2020; a", "smith jo; 2020; b"])
        self.assertIs(alike_behind((1, 1, ("given", "names")), (1, 1, ("initials", "given")), library), True)
        self.assertIs(alike_behind((1, 1, ("given",)), (1, 1, ("given", "title")), library), False)

    def test_drawn_newcomers(self):
        drawn = random.Random(30)
        styles = near.styles()
        told = {True: 0, False: 0}
        for library in [library for library in near.libraries()[1:] if most_people(library) <= 3]:
            style, other = drawn.sample(styles, 2)
            if style[2] and drawn.random() < 0.8:
                # Styles that differ in a step are often alike behind a library, others seldom.
                other = without(style, drawn.randrange(len(style[2])))
            guests = [guest for source in library for guest in near.strangers(source) if guest not in library]
            apart = [guest for guest in guests if not self.is_same(style, other, library, (guest,))]
            expected = self.is_same(style, other, library, ()) and apart == []
            self.assertIs(alike_behind(style, other, library), expected, (style, other, library))
            told[expected] += 1
            if expected and guests != []:
                for _ in range(20):
                    self.assertTrue(self.is_same(style, other, library, tuple(dict.fromkeys(drawn.sample(guests, 3)))))
        self.assertGreater(min(told.values()), 20)


class WrongArguments(unittest.TestCase):
    """The errors of [27] to [30]."""

    TWO = (alike, difference, never_longer, longer_library)
    ONE = (idle_steps, trimmed)

    def test_styles(self):
        for value in WRONG_STYLES:
            for function in self.TWO + (least_apart,):
                self.assertRaises(InvalidStyle, function, value, STYLE)
                self.assertRaises(InvalidStyle, function, STYLE, value)
            for function in self.ONE:
                self.assertRaises(InvalidStyle, function, value)
            self.assertRaises(InvalidStyle, alike_behind, value, STYLE, SHELF)
            self.assertRaises(InvalidStyle, alike_behind, STYLE, value, SHELF)

    def test_people(self):
        for value in WRONG_PEOPLE:
            for function in self.TWO:
                self.assertRaises(InvalidNumber, function, STYLE, STYLE, value)
                self.assertRaises(InvalidNumber, function, (1, 1, ()), STYLE, people=value)
            for function in self.ONE:
                self.assertRaises(InvalidNumber, function, STYLE, value)
                self.assertRaises(InvalidNumber, function, (1, 1, ()), people=value)

    def test_libraries(self):
        for value in WRONG_LIBRARIES:
            self.assertRaises(InvalidLibrary, alike_behind, STYLE, STYLE, value)

    def test_the_order_of_the_errors(self):
        for function in self.TWO:
            self.assertRaises(InvalidStyle, function, None, STYLE, 0)
            self.assertRaises(InvalidStyle, function, STYLE, None, 0)
        for function in self.ONE:
            self.assertRaises(InvalidStyle, function, None, 0)
        self.assertRaises(InvalidStyle, alike_behind, None, STYLE, None)
        self.assertRaises(InvalidStyle, alike_behind, STYLE, None, None)

    def test_arguments_by_name(self):
        style, other = (3, 1, ("all",)), (3, 1, ("names",))
        self.assertEqual([alike(people=3, other=other, style=style), alike(other=other, style=style)], [True, False])
        self.assertEqual([never_longer(people=3, other=other, style=style), never_longer(other=other, style=style)],
                         [True, False])
        self.assertEqual(longer_library(people=4, other=other, style=style), longer_library(style, other, 4))
        self.assertEqual(difference(people=4, other=other, style=style), difference(style, other, 4))
        self.assertEqual(least_apart(other=other, style=style), 4)
        self.assertEqual([idle_steps(people=1, style=style), trimmed(people=1, style=style)], [[0], (3, 1, ())])
        self.assertIs(alike_behind(library=(WIND,), other=other, style=style), True)

    def test_people_none_is_the_default(self):
        for style, other in pairs_of(FEW, 211):
            for function in self.TWO:
                self.assertEqual(function(style, other), function(style, other, None))
            for function in self.ONE:
                self.assertEqual(function(style), function(style, None))


if __name__ == "__main__":
    unittest.main()
