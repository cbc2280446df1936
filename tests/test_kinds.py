import copy
import inspect
import itertools
import random
import unittest

import near
import samples
from samples import LATER, SHELF, STRANGE, STYLE, THREE, TIDES, WAVES, WIND
from sourcelabels.changes import coming, leaving
from sourcelabels.errors import (
    InvalidChange, InvalidIndex, InvalidLibrary, InvalidNumber, InvalidSource, InvalidStyle, InvalidText, LabelsChange,
    NothingToUndo, SameSource, TooMany,
)
from sourcelabels.kinds import BoundedLibrary, StrictBoundedLibrary, StrictLibrary
from sourcelabels.live import LiveLibrary
from sourcelabels.needs import labels
from sourcelabels.texts import format_style, parse_library

KINDS = (LiveLibrary, StrictLibrary, BoundedLibrary, StrictBoundedLibrary)
STRICT = (StrictLibrary, StrictBoundedLibrary)
BOUNDED = (BoundedLibrary, StrictBoundedLibrary)

BARE = (1, 1, ("initials",))
ON_A, ON_B, ON_C = parse_library(["smith jo; 2020; on a", "smith jo; 2020; on b", "smith jo; 2020; on c"])
YEARS = parse_library([f"smith jo; {year}; on a" for year in range(40)])


class Checks(unittest.TestCase):
    """What every live library has to be."""

    def check(self, live, library, many):
        self.assertEqual(live.library_now, library)
        self.assertEqual(live.labels_now, tuple(labels(STYLE, library)))
        self.assertEqual(len(live), many)

    def check_refused(self, error, live, call, *values):
        """A call raises an error, and the object does not change. Returns the error."""
        before = copy.deepcopy(vars(live))
        with self.assertRaises(error) as caught:
            call(*values)
        self.assertIs(type(caught.exception), error)
        self.assertEqual(vars(live), before)
        return caught.exception


class Strict(Checks):
    """StrictLibrary of [38], and what StrictBoundedLibrary has of it."""

    def test_calls_that_change_no_other_labels(self):
        for kind in STRICT:
            live = kind(STYLE)
            self.assertEqual([live.come(source) for source in (WAVES, WIND, LATER)], [0, 0, 0])
            self.assertEqual(live.go(1), 0)
            self.check(live, (WAVES, LATER), 4)

    def test_calls_that_change_other_labels(self):
        for kind in STRICT:
            live = kind(STYLE, (WAVES,))
            live.come(WIND)
            self.assertEqual(self.check_refused(LabelsChange, live, live.come, THREE).count, 1)
            self.check(live, (WAVES, WIND), 1)
            live = kind(STYLE, SHELF)
            for index in (0, 1):
                self.assertEqual(self.check_refused(LabelsChange, live, live.go, index).count, 1)
            self.assertEqual(live.go(2), 0)

    def test_letters_count(self):
        for kind in STRICT:
            live = kind(BARE, (ON_C, ON_B))
            self.assertEqual(self.check_refused(LabelsChange, live, live.come, ON_A).count, 2)
            self.assertEqual(self.check_refused(LabelsChange, live, live.go, 1).count, 1)
            self.assertEqual(self.check_refused(LabelsChange, live, live.go, 0).count, 1)
            live = kind(BARE, (ON_A, ON_B))
            self.assertEqual([live.come(ON_C), live.go(2)], [0, 0])

    def test_undo_is_always_allowed(self):
        for kind in STRICT:
            live = kind(STYLE, SHELF[:2])
            live.come(WIND)
            live.go(2)
            self.assertEqual([live.undo(), live.undo()], ["go", "come"])
            self.check_refused(NothingToUndo, live, live.undo)
            self.check(live, SHELF[:2], 0)
            live = kind(BARE, (ON_A, ON_B))
            live.come(ON_C)
            self.assertEqual(live.undo(), "come")
            self.assertEqual(live.labels_now, tuple(labels(BARE, (ON_A, ON_B))))

    def test_drawn_calls(self):
        drawn = random.Random(381)
        refused = 0
        for (style, library), kind in itertools.product(near.cases()[::90], STRICT):
            live = kind(style, library)
            for _ in range(10):
                now, many = live.library_now, len(live)
                free = [source for source in near.pool() if source not in now]
                if free and (not now or drawn.random() < 0.6):
                    value = drawn.choice(free)
                    call, word, count = live.come, "come", len(coming(style, now, value))
                else:
                    value = drawn.randrange(len(now))
                    call, word, count = live.go, "go", len(leaving(style, now, value))
                if count:
                    self.assertEqual(self.check_refused(LabelsChange, live, call, value).count, count)
                    self.assertEqual(self.check_refused(LabelsChange, live, live.try_changes, (word, value)).count, count)
                    refused += 1
                else:
                    self.assertEqual(live.try_changes((word, value)), [0])
                    self.assertEqual([call(value), len(live)], [0, many + 1])
                kept = dict(zip(now, labels(style, now)))
                told = dict(zip(live.library_now, live.labels_now))
                self.assertEqual([told[source] for source in told if source in kept],
                                 [kept[source] for source in told if source in kept])
        self.assertGreater(refused, 30)

    def test_try_changes(self):
        for kind in STRICT:
            live = kind(STYLE, (WAVES,))
            live.come(LATER)
            self.assertEqual(live.try_changes(("come", WIND), ("go", 0), ("come", THREE), ("go", 0)), [0, 0, 0, 0])
            error = self.check_refused(LabelsChange, live, live.try_changes, ("come", WIND), ("come", THREE), ("go", 9))
            self.assertEqual(error.count, 1)
            self.check_refused(InvalidIndex, live, live.try_changes, ("go", 9), ("come", THREE))
            self.check(live, (WAVES, LATER), 1)


class Bounded(Checks):
    """BoundedLibrary of [38], and what StrictBoundedLibrary has of it."""

    def test_at_the_bound(self):
        for kind in BOUNDED:
            live = kind(STYLE, YEARS[:2], 3)
            self.assertEqual(live.come(YEARS[2]), 0)
            self.assertEqual(self.check_refused(TooMany, live, live.come, YEARS[3]).count, 4)
            self.check(live, YEARS[:3], 1)
            live.go(0)
            self.assertEqual(live.come(YEARS[3]), 0)
            self.assertEqual(self.check_refused(TooMany, live, live.come, YEARS[0]).count, 4)
            self.assertEqual([live.undo(), live.undo()], ["come", "go"])
            self.check(live, YEARS[:3], 1)

    def test_a_bound_of_zero(self):
        for kind in BOUNDED:
            live = kind(STYLE, most=0)
            self.assertEqual(self.check_refused(TooMany, live, live.come, WIND).count, 1)
            self.check(live, (), 0)
            self.assertEqual(live.told_words()[-1], "most 0")
            self.assertEqual(live.try_changes(), [])

    def test_the_default_bound(self):
        for kind in BOUNDED:
            live = kind(STYLE)
            for source in YEARS[:30]:
                live.come(source)
            self.assertEqual(self.check_refused(TooMany, live, live.come, YEARS[30]).count, 31)
            self.check(kind(STYLE, YEARS[:30]), YEARS[:30], 0)
            with self.assertRaises(TooMany) as caught:
                kind(STYLE, YEARS[:31])
            self.assertEqual(caught.exception.count, 31)

    def test_a_larger_library_at_the_constructor(self):
        for kind in BOUNDED:
            for many, most in ((1, 0), (3, 2), (40, 39), (40, 0)):
                with self.assertRaises(TooMany) as caught:
                    kind(STYLE, YEARS[:many], most)
                self.assertEqual(caught.exception.count, many)
            for many, most in ((0, 0), (2, 2), (2, 3), (40, 40), (40, 10 ** 39)):
                self.check(kind(STYLE, YEARS[:many], most), YEARS[:many], 0)

    def test_the_errors_of_live_libraries_come_first(self):
        for kind in BOUNDED:
            live = kind(STYLE, SHELF, 4)
            self.check_refused(InvalidSource, live, live.come, None)
            self.check_refused(SameSource, live, live.come, WIND)
            self.check_refused(InvalidIndex, live, live.go, 4)
            self.check_refused(InvalidChange, live, live.try_changes, None)
            self.check_refused(SameSource, live, live.try_changes, ("come", WIND))

    def test_try_changes(self):
        for kind in BOUNDED:
            live = kind(STYLE, YEARS[:2], 2)
            self.assertEqual(live.try_changes(("go", 0), ("come", YEARS[5]), ("go", 1)), [0, 0, 0])
            error = self.check_refused(TooMany, live, live.try_changes, ("go", 0), ("come", YEARS[4]), ("come", YEARS[5]))
            self.assertEqual(error.count, 3)
            self.check(live, YEARS[:2], 0)

    def test_labels_may_change(self):
        live = BoundedLibrary(STYLE, (WAVES,), 2)
        self.assertEqual([live.come(THREE), live.go(0)], [1, 1])

    def test_wrong_arguments(self):
        for kind in BOUNDED:
            for value in list(STRANGE) + [-1, "30", 30.0, (30,), True, False]:
                self.assertRaises(InvalidNumber, kind, STYLE, SHELF, value)
                self.assertRaises(InvalidNumber, kind, STYLE, most=value)
            self.assertRaises(InvalidStyle, kind, None, None, None)
            self.assertRaises(InvalidLibrary, kind, STYLE, None, None)
            self.assertRaises(InvalidLibrary, kind, STYLE, SHELF + SHELF, 0)
            self.assertRaises(InvalidNumber, kind, STYLE, YEARS, -1)


class Both(Checks):
    """What all four kinds have in common, and StrictBoundedLibrary of [38]."""

    def test_labels_change_comes_first(self):
        live = StrictBoundedLibrary(STYLE, (WAVES,), 1)
        self.assertEqual(self.check_refused(LabelsChange, live, live.come, THREE).count, 1)
        self.assertEqual(self.check_refused(TooMany, live, live.come, WIND).count, 2)
        self.assertEqual(self.check_refused(LabelsChange, live, live.try_changes, ("come", THREE)).count, 1)
        self.assertEqual(self.check_refused(TooMany, live, live.try_changes, ("come", WIND)).count, 2)
        live = BoundedLibrary(STYLE, (WAVES,), 1)
        self.check_refused(TooMany, live, live.come, THREE)
        live = StrictLibrary(STYLE, (WAVES,))
        self.assertEqual(live.come(WIND), 0)

    def test_told_words(self):
        more = ([], ["strict"], ["most 30"], ["strict", "most 30"])
        for kind, words in zip(KINDS, more):
            self.assertEqual(kind(STYLE).told_words(), ["sources 0", "letters 0"] + words)
            self.assertEqual(kind(BARE, (ON_A, TIDES, ON_B)).told_words(), ["sources 3", "letters 2"] + words)
            live = kind(STYLE, (WIND,))
            live.told_words().clear()
            live.come(LATER)
            self.assertEqual(live.told_words(), ["sources 2", "letters 0"] + words)
        for kind, words in zip(BOUNDED, (["most 7"], ["strict", "most 7"])):
            self.assertEqual(kind(STYLE, (), 7).told_words(), ["sources 0", "letters 0"] + words)
            self.assertEqual(kind(STYLE, most=10 ** 39).told_words()[-1], "most 1" + "0" * 39)

    def test_read(self):
        for kind, style in itertools.product(KINDS, near.styles()[::5]):
            live = kind.read(format_style(style))
            self.assertIs(type(live), kind)
            self.assertEqual(live.told_words(), kind(style).told_words())
            live.come(WAVES)
            self.assertEqual(live.labels_now, tuple(labels(style, (WAVES,))))
            self.assertIs(type(kind(style).read("most 1, kept 1")), kind)
        for kind, value in itertools.product(KINDS, list(STRANGE) + ["", "most 1", STYLE]):
            self.assertRaises(InvalidText, kind.read, value)

    def test_is_valid_and_empty(self):
        for kind in KINDS:
            self.assertEqual([kind.is_valid(STYLE), kind.is_valid(None), kind.EMPTY], [True, False, ()])

    def test_base_classes(self):
        for kind in KINDS:
            self.assertTrue(issubclass(kind, LiveLibrary))
        for kind in (StrictLibrary, BoundedLibrary):
            self.assertTrue(issubclass(StrictBoundedLibrary, kind))
            self.assertIn("told_words", vars(kind))
        self.assertFalse(issubclass(StrictLibrary, BoundedLibrary) or issubclass(BoundedLibrary, StrictLibrary))

    def test_the_arguments_of_the_constructors(self):
        for kind, names in zip(KINDS, (["style", "library"],) * 2 + (["style", "library", "most"],) * 2):
            self.assertEqual(list(inspect.signature(kind).parameters), names)
            self.check(kind(library=SHELF, style=STYLE), SHELF, 0)
        for kind in BOUNDED:
            self.check(kind(most=4, library=SHELF, style=STYLE), SHELF, 0)

    def test_wrong_styles_and_libraries(self):
        for kind in KINDS:
            for value in list(STRANGE) + samples.spoiled_styles():
                self.assertRaises(InvalidStyle, kind, value, None)
            for value in list(STRANGE) + samples.spoiled_libraries():
                self.assertRaises(InvalidLibrary, kind, STYLE, value)

    def test_calls_that_nothing_refuses(self):
        for kind in KINDS:
            live = kind(STYLE)
            for k in range(10):
                self.assertEqual(live.come(YEARS[k]), 0)
            self.assertEqual([live.go(3), live.undo(), live.undo()], [0, "go", "come"])
            self.check(live, YEARS[:9], 9)
            self.check_refused(InvalidSource, live, live.come, ("smith", 2020))
            self.check_refused(InvalidIndex, live, live.go, 9)
            for error, change in ((InvalidChange, ("gone", 1)), (InvalidSource, ("come", 1)), (InvalidIndex, ("go", 9)),
                                  (SameSource, ("come", YEARS[0]))):
                self.check_refused(error, live, live.try_changes, ("go", 8), ("come", YEARS[8]), change, change)

    def test_objects_do_not_disturb_one_another(self):
        lives = [kind(STYLE, YEARS[:2]) for kind in KINDS] + [BoundedLibrary(STYLE, YEARS[:2], 2)]
        for live in lives[:4]:
            live.come(YEARS[2])
        self.check_refused(TooMany, lives[4], lives[4].come, YEARS[2])
        for live in lives[:4]:
            self.check(live, YEARS[:3], 1)
        lives[0].undo()
        self.check(lives[1], YEARS[:3], 1)


if __name__ == "__main__":
    unittest.main()
