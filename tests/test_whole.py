import unittest

import near
import reading
from sourcelabels.alike import alike, alike_behind, trimmed
from sourcelabels.changes import can_become, coming, joining, leaving, settled
from sourcelabels.groups import letter_groups, plain, without_letters
from sourcelabels.kinds import BoundedLibrary, StrictLibrary
from sourcelabels.labels import fitting
from sourcelabels.learning import gives, styles_for
from sourcelabels.letters import letters_of
from sourcelabels.live import LiveLibrary
from sourcelabels.needs import labels, lookup, place_of, printing, stale
from sourcelabels.objects import Label, Library
from sourcelabels.orders import fewest_old, good_order, old_in
from sourcelabels.shapes import alone, shapes
from sourcelabels.texts import format_label, format_library, format_style, parse_label, parse_library, parse_style


def cases_with_idle_steps():
    """Pairs of a style of which steps can be left out and a library."""
    styles = [style for style in near.styles() if trimmed(style) != style]
    styles += [(1, 1, ("first initial", "initials", "title")), (2, 2, ("names", "title", "all", "given", "first given")),
               (3, 1, reading.WORDS), (1, 1, ("given", "initials", "title", "first given", "names"))]
    return [(styles[(k + more) % len(styles)], library) for k, library in enumerate(near.libraries()) for more in range(3)]


class Whole(unittest.TestCase):
    """What holds between the parts of the program, for small libraries whose sources are near one another."""

    def test_a_style_and_its_trimmed_style(self):
        pool = near.pool()
        shorter = 0
        for k, (style, library) in enumerate(cases_with_idle_steps()):
            other = trimmed(style)
            shorter += len(other[2]) < len(style[2])
            order = list(range(len(library)))[::-1]
            guests = [source for source in pool if source not in library]
            for function, more in (
                (labels, ()), (printing, ()), (stale, ()), (letter_groups, ()), (without_letters, ()), (plain, ()),
                (settled, ()), (old_in, (order,)), (fewest_old, ()), (good_order, ()), (joining, (tuple(guests[:3]),)),
                (coming, (guests[k % len(guests)],)),
            ):
                found, expected = function(style, library, *more), function(other, library, *more)
                if function == printing:
                    found, expected = list(found), list(expected)
                self.assertEqual(found, expected, (function, style, library))
            for index in range(len(library)):
                self.assertEqual(leaving(style, library, index), leaving(other, library, index))
                self.assertEqual(can_become(style, library, index), can_become(other, library, index))
                self.assertEqual(place_of(style, library, index), place_of(other, library, index))
            self.assertIs(alike_behind(style, other, library), True)
        self.assertGreater(shorter, 300)

    def test_sums_of_library_objects(self):
        libraries = near.libraries()
        for k, (style, library) in enumerate(near.cases()[1::3]):
            other = libraries[(k * 17 + 5) % len(libraries)]
            both = Library(style, library) + Library(style, other)
            old = labels(style, library)
            told = {index: new for index, _, new in joining(style, library, other)}
            self.assertEqual([both(source) for source in library],
                             [told.get(index, label) for index, label in enumerate(old)])
            self.assertEqual([both(source) for source in both.library], reading.labels(style, both.library))

    def test_letters_of_live_libraries_have_no_gaps(self):
        for style, library in near.cases()[::2]:
            live = LiveLibrary(style)
            for source in library:
                live.come(source)
                self.check_letters(live)
            while live.library_now != ():
                live.go(len(live.library_now) // 2)
                self.check_letters(live)
            while len(live) > 0:
                live.undo()
                self.check_letters(live)

    def check_letters(self, live):
        letters = {}
        for label in live.labels_now:
            if label[4] != "":
                letters.setdefault(label[:4], []).append(label[4])
        for found in letters.values():
            self.assertEqual(sorted(found, key=lambda told: (len(told), told)), [letters_of(k) for k in range(len(found))])

    def test_labels_tell_sources_apart(self):
        for style, library in near.cases():
            found = labels(style, library)
            self.assertEqual(len(set(found)), len(library))
            for index, label in enumerate(found):
                self.assertEqual(lookup(style, library, label), index)
                self.assertIs(Label(label)(library[index]), True)
                self.assertEqual(fitting(library, label) == [index], place_of(style, library, index) is not None)
                self.assertIn(label[:4] + ("",), shapes(library[index]))
                self.assertEqual(label in alone(library, index), label[4] == "")

    def test_what_coming_in_an_order_makes_old(self):
        for style, library in near.cases()[::3]:
            order = good_order(style, library)
            # For stale, letters count too: it tells all that are old, and perhaps more.
            told = stale(style, tuple([library[index] for index in order]))
            self.assertLessEqual(set(old_in(style, library, order)), set([order[rank] for rank in told]))
            quiet = BoundedLibrary(style, most=len(library))
            self.assertEqual([quiet.come(source) for source in library], [len(pair[1]) for pair in printing(style, library)])

    def test_strict_libraries_refuse_what_changes_labels(self):
        for style, library in near.cases()[::11]:
            live = StrictLibrary(style, library)
            for source in near.pool():
                if source not in library and coming(style, library, source) == []:
                    self.assertEqual([live.come(source), live.undo()], [0, "come"])

    def test_styles_that_give_the_labels(self):
        for style, library in [case for case in near.cases() if 1 < len(case[1]) <= 3 and case[0][0] <= 2][::40]:
            told = labels(style, library)
            found = list(styles_for(library, told, 2))
            self.assertIn(style, found)
            for other in found[::101] + [trimmed(style)]:
                self.assertIs(gives(other, library, told), True)
                self.assertIs(gives(trimmed(other), library, told), True)

    def test_all_texts_come_back(self):
        for style, library in near.cases()[::4]:
            again, shelf = parse_style(format_style(style)), parse_library(format_library(library))
            self.assertIs(alike(again, style), True)
            self.assertEqual([parse_label(format_label(label)) for label in labels(again, shelf)], labels(style, library))


if __name__ == "__main__":
    unittest.main()
