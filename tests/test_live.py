import copy
import inspect
import itertools
import random
import unittest

import near
import reading
import samples
from samples import LATER, LIBRARY, ONE, SHELF, STRANGE, STYLE, THREE, TIDES, WAVES, WIND, replaced
from sourcelabels.changes import coming, leaving
from sourcelabels.errors import (
    InvalidChange, InvalidIndex, InvalidLibrary, InvalidSource, InvalidStyle, InvalidText, LabelError, NothingToUndo,
    SameSource,
)
from sourcelabels.letters import number_of
from sourcelabels.live import LiveLibrary
from sourcelabels.needs import labels
from sourcelabels.styles import is_style
from sourcelabels.texts import format_style, parse_library, parse_source

WRONG_SOURCES = list(STRANGE) + samples.spoiled_sources()

BARE = (1, 1, ("initials",))
ON_A, ON_B, ON_C = parse_library(["smith jo; 2020; on a", "smith jo; 2020; on b", "smith jo; 2020; on c"])


def wrong_changes():
    """Values that are no changes."""
    return list(STRANGE) + [
        "come", "go", ("come",), ("go",), ("come", WIND, 0), ("go", 0, 0), ["come", ON_A], ["go", 0], ("Come", ON_A),
        ("GO", 0), ("went", 0), ("", 0), (b"go", 0), (None, 0), (1, 0), (0, "go"), (ON_A, "come"), ("come ", ON_A),
        (("come",), ON_A), ("undo", None), ("come", ON_A, None), (samples.EqualToAll(), 0), (["go"], 0), WIND, 0,
        {"come": ON_A, "go": 0},
    ]


class Checks(unittest.TestCase):
    """What every live library has to be."""

    def check(self, live, style, library, many):
        """A live library has this library, its labels, and this number of calls that undo can remove."""
        self.assertEqual(live.library_now, library)
        self.assertEqual(live.labels_now, tuple(labels(style, library)))
        self.assertEqual([type(live.library_now), type(live.labels_now)], [tuple, tuple])
        self.assertEqual(len(live), many)
        lettered = [label for label in live.labels_now if label[4]]
        self.assertEqual(live.told_words()[:2], [f"sources {len(library)}", f"letters {len(lettered)}"])

    def check_letters(self, live):
        """The letters have no gaps: for each label they are those with the numbers from 0 on."""
        numbers = {}
        for label in live.labels_now:
            if label[4] != "":
                numbers.setdefault(label[:4], []).append(number_of(label[4]))
        for found in numbers.values():
            self.assertEqual(sorted(found), list(range(len(found))))

    def check_refused(self, error, live, call, *values):
        """A call raises an error, and the object does not change."""
        before = copy.deepcopy(vars(live))
        self.assertRaises(error, call, *values)
        self.assertEqual(vars(live), before)


class Calls(Checks):
    """come, go and undo of [37]."""

    def test_come(self):
        live = LiveLibrary(STYLE)
        self.check(live, STYLE, (), 0)
        for k, count in enumerate([0, 1, 0, 0]):
            self.assertEqual(live.come(SHELF[k]), count)
            self.check(live, STYLE, SHELF[:k + 1], k + 1)

    def test_go(self):
        live = LiveLibrary(STYLE, SHELF)
        self.assertEqual(live.go(2), 0)
        self.check(live, STYLE, SHELF[:2] + SHELF[3:], 1)
        self.assertEqual(live.go(0), 1)
        self.check(live, STYLE, (WAVES, LATER), 2)
        self.assertEqual([live.go(1), live.go(0)], [0, 0])
        self.check(live, STYLE, (), 4)

    def test_letters_count(self):
        live = LiveLibrary(BARE, (ON_C,))
        self.assertEqual([live.come(ON_B), live.come(ON_A), live.go(2), live.go(0)], [1, 2, 2, 1])
        self.assertEqual([live.told_words(), len(live)], [["sources 1", "letters 0"], 4])
        live = LiveLibrary(BARE, (ON_A, ON_B))
        self.assertEqual([live.come(ON_C), live.go(2)], [0, 0])

    def test_undo(self):
        live = LiveLibrary(STYLE, SHELF)
        live.go(1)
        live.come(TIDES)
        live.come(WAVES)
        self.assertEqual(live.undo(), "come")
        self.check(live, STYLE, (THREE, WIND, LATER, TIDES), 2)
        self.assertEqual(live.undo(), "come")
        self.check(live, STYLE, (THREE, WIND, LATER), 1)
        self.assertEqual(live.undo(), "go")
        self.check(live, STYLE, SHELF, 0)

    def test_undo_where_there_is_nothing_to_undo(self):
        for library in ((), SHELF):
            live = LiveLibrary(STYLE, library)
            self.check_refused(NothingToUndo, live, live.undo)
            live.come(TIDES)
            live.undo()
            self.check_refused(NothingToUndo, live, live.undo)
            self.check(live, STYLE, library, 0)

    def test_undo_is_no_call_that_undo_takes_back(self):
        live = LiveLibrary(STYLE)
        live.come(THREE)
        live.come(WAVES)
        live.undo()
        live.come(WIND)
        self.assertEqual([live.undo(), live.undo()], ["come", "come"])
        self.check(live, STYLE, (), 0)

    def test_call_by_call(self):
        """Drawn calls against coming and leaving, with undo at the end."""
        drawn = random.Random(37)
        for style, library in near.cases()[::40]:
            live = LiveLibrary(style, library)
            past = []
            for _ in range(12):
                now = live.library_now
                free = [source for source in near.pool() if source not in now]
                if drawn.random() < 0.6 and free:
                    source = drawn.choice(free)
                    self.assertEqual(live.come(source), len(coming(style, now, source)))
                    past.append(("come", now))
                    self.check(live, style, now + (source,), len(past))
                elif now and drawn.random() < 0.8:
                    index = drawn.randrange(len(now))
                    self.assertEqual(live.go(index), len(leaving(style, now, index)))
                    past.append(("go", now))
                    self.check(live, style, now[:index] + now[index + 1:], len(past))
                elif past:
                    word, before = past.pop()
                    self.assertEqual(live.undo(), word)
                    self.check(live, style, before, len(past))
                self.check_letters(live)
                self.assertEqual(list(live.labels_now), reading.labels(style, live.library_now))
            for word, before in reversed(past):
                self.assertEqual(live.undo(), word)
                self.check(live, style, before, len(live))
            self.check(live, style, library, 0)

    def test_refused_calls_change_nothing(self):
        live = LiveLibrary(STYLE, SHELF)
        live.go(3)
        for value in WRONG_SOURCES:
            self.check_refused(InvalidSource, live, live.come, value)
        for source in SHELF[:3]:
            self.check_refused(SameSource, live, live.come, source)
        for value in samples.spoiled_indexes(SHELF[:3]) + list(STRANGE):
            self.check_refused(InvalidIndex, live, live.go, value)
        self.check(live, STYLE, SHELF[:3], 1)
        empty = LiveLibrary(STYLE)
        self.check_refused(InvalidIndex, empty, empty.go, 0)

    def test_at_the_limits(self):
        large = near.large_library(60)
        live = LiveLibrary(near.LARGE_STYLES[0])
        for source in large:
            live.come(source)
        self.assertEqual([len(live), len(live.library_now)], [60, 60])
        for _ in range(60):
            live.undo()
        self.check(live, near.LARGE_STYLES[0], (), 0)


class TryChanges(Checks):
    """try_changes of [37]."""

    def test_the_numbers_of_the_calls(self):
        live = LiveLibrary(STYLE, (THREE,))
        live.come(WIND)
        before = copy.deepcopy(vars(live))
        self.assertEqual(live.try_changes(("come", WAVES), ("go", 0), ("come", LATER), ("go", 0)), [1, 1, 0, 0])
        self.assertEqual(vars(live), before)

    def test_no_changes(self):
        live = LiveLibrary(STYLE, SHELF)
        self.assertEqual(live.try_changes(), [])
        self.check(live, STYLE, SHELF, 0)

    def test_what_the_calls_would_return(self):
        drawn = random.Random(38)
        for style, library in near.cases()[::60]:
            live, copied = LiveLibrary(style, library), LiveLibrary(style, library)
            changes, counts = [], []
            for _ in range(8):
                free = [source for source in near.pool() if source not in copied.library_now]
                if copied.library_now and (drawn.random() < 0.4 or not free):
                    changes.append(("go", drawn.randrange(len(copied.library_now))))
                    counts.append(copied.go(changes[-1][1]))
                else:
                    changes.append(("come", drawn.choice(free)))
                    counts.append(copied.come(changes[-1][1]))
            self.assertEqual(live.try_changes(*changes), counts)
            self.check(live, style, library, 0)

    def test_later_changes_see_the_ones_ahead(self):
        live = LiveLibrary(STYLE, (WIND,))
        self.assertEqual(live.try_changes(("go", 0), ("come", WIND), ("come", THREE), ("go", 1), ("go", 0)), [0] * 5)
        self.check_refused(SameSource, live, live.try_changes, ("come", THREE), ("come", THREE))
        self.check_refused(InvalidIndex, live, live.try_changes, ("go", 0), ("go", 0))
        self.check_refused(InvalidIndex, live, live.try_changes, ("come", THREE), ("go", 2))

    def test_values_that_are_no_changes(self):
        live = LiveLibrary(STYLE, SHELF)
        live.go(3)
        for value in wrong_changes():
            self.check_refused(InvalidChange, live, live.try_changes, value)
            self.check_refused(InvalidChange, live, live.try_changes, ("go", 0), value, ("go", 0))
            self.check_refused(InvalidChange, live, live.try_changes, ("come", TIDES), ("go", 0), value)

    def test_changes_with_a_wrong_value(self):
        live = LiveLibrary(STYLE, SHELF)
        live.go(3)
        for value in WRONG_SOURCES:
            self.check_refused(InvalidSource, live, live.try_changes, ("go", 0), ("come", value))
        for value in samples.spoiled_indexes(SHELF[:3]) + list(STRANGE):
            self.check_refused(InvalidIndex, live, live.try_changes, ("come", TIDES), ("go", 0), ("go", value))
        self.check_refused(SameSource, live, live.try_changes, ("come", WIND))

    def test_the_first_one_that_fails_decides(self):
        live = LiveLibrary(STYLE, SHELF)
        failing = ((InvalidChange, None), (InvalidSource, ("come", None)), (SameSource, ("come", WIND)),
                   (InvalidIndex, ("go", 4)))
        for (error, change), (_, other) in itertools.permutations(failing, 2):
            self.check_refused(error, live, live.try_changes, change, other)
            self.check_refused(error, live, live.try_changes, ("come", TIDES), ("go", 4), change, other)

    def test_twenty_changes(self):
        live = LiveLibrary(STYLE)
        self.assertEqual(live.try_changes(*[("come", THREE), ("go", 0)] * 10), [0] * 20)
        self.check(live, STYLE, (), 0)

    def test_the_calls_behind_it(self):
        live = LiveLibrary(STYLE, (THREE,))
        self.assertEqual(live.try_changes(("come", WAVES)), [1])
        self.assertRaises(InvalidIndex, live.try_changes, ("come", WAVES), ("go", 7))
        self.assertEqual(live.come(WAVES), 1)
        self.check(live, STYLE, SHELF[:2], 1)


class Rest(Checks):
    """The rest of [37]: the constructor, told_words, the properties, EMPTY, read and is_valid."""

    def test_the_constructor(self):
        for style, library in near.cases()[::60]:
            self.check(LiveLibrary(style, library), style, library, 0)
        self.check(LiveLibrary(STYLE), STYLE, (), 0)
        self.check(LiveLibrary(library=SHELF, style=STYLE), STYLE, SHELF, 0)

    def test_told_words(self):
        self.assertEqual(LiveLibrary(STYLE).told_words(), ["sources 0", "letters 0"])
        self.assertEqual(LiveLibrary(BARE, (ON_A, WAVES, ON_B)).told_words(), ["sources 3", "letters 2"])
        live = LiveLibrary(BARE, (ON_A,))
        live.told_words().append("x")
        self.assertEqual(live.told_words(), ["sources 1", "letters 0"])

    def test_the_properties_cannot_be_set(self):
        live = LiveLibrary(STYLE, SHELF)
        for name in ("library_now", "labels_now"):
            with self.assertRaises(AttributeError):
                setattr(live, name, ())

    def test_the_empty_library(self):
        self.assertEqual([LiveLibrary.EMPTY, LiveLibrary(STYLE, SHELF).EMPTY], [(), ()])
        self.assertIs(type(LiveLibrary.EMPTY), tuple)
        self.check(LiveLibrary(STYLE, LiveLibrary.EMPTY), STYLE, (), 0)

    def test_read(self):
        for style in near.styles():
            live = LiveLibrary.read(format_style(style))
            self.assertIs(type(live), LiveLibrary)
            live.come(WAVES)
            self.check(live, style, (WAVES,), 1)
        for value in list(STRANGE) + ["", "most 2", "most 2, kept 3", "most 2, kept 1: ", STYLE, "most 2, kept 1: al"]:
            self.assertRaises(InvalidText, LiveLibrary.read, value)
        self.assertEqual(LiveLibrary.read(style_text="most 1, kept 1").library_now, ())

    def test_is_valid(self):
        for value in list(STRANGE) + samples.spoiled_styles() + near.styles() + [SHELF, ONE, 10 ** 39, (10 ** 39, 1, ())]:
            self.assertIs(LiveLibrary.is_valid(value), is_style(value))
        self.assertIs(LiveLibrary(STYLE).is_valid(value=STYLE), True)

    def test_kinds_of_methods(self):
        self.assertIsInstance(inspect.getattr_static(LiveLibrary, "read"), classmethod)
        self.assertIsInstance(inspect.getattr_static(LiveLibrary, "is_valid"), staticmethod)
        for name in ("library_now", "labels_now"):
            self.assertIsInstance(inspect.getattr_static(LiveLibrary, name), property)

    def test_wrong_arguments(self):
        for value in list(STRANGE) + samples.spoiled_styles():
            self.assertRaises(InvalidStyle, LiveLibrary, value)
            self.assertRaises(InvalidStyle, LiveLibrary, value, None)
        for value in list(STRANGE) + samples.spoiled_libraries():
            self.assertRaises(InvalidLibrary, LiveLibrary, STYLE, value)

    def test_arguments_by_name(self):
        live = LiveLibrary(STYLE, SHELF)
        self.assertEqual([live.come(source=TIDES), live.go(index=1)], [len(coming(STYLE, SHELF, TIDES)), 1])

    def test_two_objects_do_not_disturb_one_another(self):
        one, two = LiveLibrary(STYLE, SHELF), LiveLibrary(STYLE, SHELF)
        one.go(0)
        one.come(TIDES)
        self.check(two, STYLE, SHELF, 0)
        two.come(replaced(TIDES, 1, 1999))
        one.undo()
        self.check(one, STYLE, SHELF[1:], 1)
        self.check(two, STYLE, SHELF + (replaced(TIDES, 1, 1999),), 1)
        self.check(LiveLibrary(STYLE), STYLE, (), 0)

    def test_all_errors_are_label_errors(self):
        live = LiveLibrary(STYLE, LIBRARY)
        for call, values in ((live.come, (None,)), (live.go, (9,)), (live.undo, ()), (live.try_changes, (1,))):
            self.assertRaises(LabelError, call, *values)
        self.assertEqual(live.come(parse_source("smith jo; 2020; a")), len(coming(STYLE, LIBRARY, replaced(WIND, 2, "a"))))


if __name__ == "__main__":
    unittest.main()
