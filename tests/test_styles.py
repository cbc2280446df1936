import itertools
import unittest

import near
import reading
import samples
from samples import SHELF, STRANGE, STYLE, THREE, TIDES, WIND, replaced
from sourcelabels.errors import InvalidNumber, InvalidSource, InvalidStyle
from sourcelabels.labels import is_label
from sourcelabels.styles import is_style, path, states

WRONG_STYLES = list(STRANGE) + samples.spoiled_styles()


class Kinds(unittest.TestCase):
    """[7] and is_style of [17]."""

    def test_ordinary_styles(self):
        for style in (STYLE, (1, 1, ()), (3, 3, ("title",)), (12, 1, reading.WORDS), (12, 12, reading.WORDS[::-1])):
            self.assertIs(is_style(style), True)

    def test_most_and_kept(self):
        for most, kept in itertools.product(range(-2, 6), repeat=2):
            self.assertIs(is_style((most, kept, ())), 1 <= kept <= most)
        for most, kept in ((10 ** 39, 1), (10 ** 40 - 1, 10 ** 40 - 1), (10 ** 39, 10 ** 39 - 1)):
            self.assertIs(is_style((most, kept, ("names",))), True)
        self.assertIs(is_style((10 ** 39, 10 ** 39 + 1, ())), False)

    def test_bools_are_no_integers(self):
        for most, kept in ((True, 1), (1, True), (True, True), (2, True), (1, False)):
            self.assertIs(is_style((most, kept, ())), False)

    def test_steps_are_words_of_the_list(self):
        for word in reading.WORDS:
            self.assertIs(is_style((1, 1, (word,))), True)
            for wrong in (word.upper(), word + " ", " " + word, word[:-1], word + "s", word.encode(), [word], None):
                self.assertIs(is_style((1, 1, (wrong,))), False)

    def test_steps_are_different(self):
        for word in reading.WORDS:
            self.assertIs(is_style((1, 1, (word, word))), False)
            self.assertIs(is_style((1, 1, reading.WORDS + (word,))), False)

    def test_steps_in_any_order(self):
        for steps in reading.all_steps():
            self.assertIs(is_style((3, 2, steps)), True)

    def test_any_other_value_is_no_style(self):
        for value in WRONG_STYLES + [TIDES, SHELF, samples.ONE]:
            self.assertIs(is_style(value), False)

    def test_arguments_by_name(self):
        self.assertIs(is_style(value=STYLE), True)
        self.assertIs(is_style(value=None), False)


class States(unittest.TestCase):
    """[8], [9] and states of [17]."""

    def test_the_first_state(self):
        for most, kept in ((1, 1), (2, 1), (3, 2), (4, 4), (12, 5)):
            for people in range(1, 13):
                shown = people if people <= most else kept
                self.assertEqual(states((most, kept, ()), people), [(shown, 0, 0, False)])

    def test_as_many_people_as_most_and_one_more(self):
        self.assertEqual(states((3, 1, ("names",)), 3), [(3, 0, 0, False)])
        self.assertEqual(states((3, 1, ("names",)), 4), [(many, 0, 0, False) for many in (1, 2, 3, 4)])

    def test_names_makes_a_state_for_each_name(self):
        self.assertEqual(states((1, 1, ("names",)), 5), [(many, 0, 0, False) for many in (1, 2, 3, 4, 5)])
        self.assertEqual(states((5, 4, ("names",)), 6), [(many, 0, 0, False) for many in (4, 5, 6)])
        self.assertEqual(states((5, 4, ("names", "title")), 4), [(4, 0, 0, False), (4, 0, 0, True)])

    def test_all_makes_one_state(self):
        self.assertEqual(states((1, 1, ("all",)), 5), [(1, 0, 0, False), (5, 0, 0, False)])
        self.assertEqual(states((5, 1, ("all",)), 5), [(5, 0, 0, False)] * 2)

    def test_names_and_all_behind_one_another(self):
        self.assertEqual(states((1, 1, ("all", "names")), 3), [(1, 0, 0, False), (3, 0, 0, False)])
        self.assertEqual(states((1, 1, ("names", "all")), 3),
                         [(1, 0, 0, False), (2, 0, 0, False), (3, 0, 0, False), (3, 0, 0, False)])

    def test_what_each_other_step_makes(self):
        for word, made in (("first initial", (1, 0)), ("initials", (1, 1)), ("first given", (2, 0)), ("given", (2, 2))):
            self.assertEqual(states((1, 1, (word,)), 3), [(1, 0, 0, False), (1, *made, False)])
        self.assertEqual(states((1, 1, ("title",)), 3), [(1, 0, 0, False), (1, 0, 0, True)])

    def test_initials_do_not_take_back_given_names(self):
        self.assertEqual(states((9, 1, ("first given", "first initial", "initials")), 2),
                         [(2, 0, 0, False), (2, 2, 0, False), (2, 2, 0, False), (2, 2, 1, False)])
        self.assertEqual(states((9, 1, ("given", "initials", "first given")), 2),
                         [(2, 0, 0, False)] + [(2, 2, 2, False)] * 3)

    def test_steps_that_change_nothing_make_states(self):
        self.assertEqual(states((1, 1, ("initials", "first initial", "title")), 1),
                         [(1, 0, 0, False), (1, 1, 1, False), (1, 1, 1, False), (1, 1, 1, True)])

    def test_states_stay_in_force(self):
        self.assertEqual(states((2, 1, ("title", "given", "names")), 3),
                         [(1, 0, 0, False), (1, 0, 0, True), (1, 2, 2, True), (2, 2, 2, True), (3, 2, 2, True)])

    def test_all_steps_word_by_word(self):
        for steps in reading.all_steps():
            for most, kept, people in ((2, 1, 2), (2, 1, 4), (3, 2, 5)):
                self.assertEqual(states((most, kept, steps), people), reading.states((most, kept, steps), people))

    def test_all_bounds_word_by_word(self):
        for most, people in itertools.product(range(1, 13), repeat=2):
            for kept in range(1, most + 1):
                for steps in near.STEPS:
                    style = (most, kept, steps)
                    self.assertEqual(states(style, people), reading.states(style, people))

    def test_kinds_of_the_answers(self):
        found = states((1, 1, reading.WORDS), 3)
        self.assertIs(type(found), list)
        for state in found:
            self.assertEqual([type(part) for part in state], [int, int, int, bool])

    def test_large_bounds(self):
        self.assertEqual(states((10 ** 39, 10 ** 38, ("names",)), 12), [(12, 0, 0, False)])

    def test_arguments_by_name(self):
        self.assertEqual(states(people=1, style=(1, 1, ())), [(1, 0, 0, False)])

    def test_wrong_styles(self):
        for value in WRONG_STYLES:
            self.assertRaises(InvalidStyle, states, value, 3)

    def test_wrong_numbers(self):
        for value in list(STRANGE) + [0, -1, True, False, "3", 3.0, (3,), None]:
            self.assertRaises(InvalidNumber, states, STYLE, value)

    def test_the_style_is_checked_first(self):
        self.assertRaises(InvalidStyle, states, None, None)
        self.assertRaises(InvalidStyle, states, people=0, style=(0, 0, ()))


class Paths(unittest.TestCase):
    """[10] and path of [17]."""

    def test_one_label_for_each_state(self):
        self.assertEqual(path(STYLE, THREE), [
            ((("smith", ""),), True, 2020, None, ""),
            ((("smith", ""), ("brown", "")), True, 2020, None, ""),
            ((("smith", ""), ("brown", ""), ("lee", "")), False, 2020, None, ""),
            ((("smith", "j."), ("brown", ""), ("lee", "")), False, 2020, None, ""),
            ((("smith", "j."), ("brown", ""), ("lee", "")), False, 2020, "on tides", ""),
        ])

    def test_the_last_name_takes_more_away(self):
        found = path((1, 1, ("names",)), TIDES)
        self.assertEqual([(len(label[0]), label[1]) for label in found], [(1, True), (2, False)])

    def test_equal_labels_are_left_out(self):
        plain = ((("smith", ""),), False, 2020, None, "")
        initial = ((("smith", "j."),), False, 2020, None, "")
        given = ((("smith", "jo"),), False, 2020, None, "")
        self.assertEqual(path((1, 1, ("names", "all")), WIND), [plain])
        self.assertEqual(path((1, 1, ("initials", "first initial", "given", "first given")), WIND),
                         [plain, initial, given])
        self.assertEqual(path((1, 1, ("first given", "initials", "given")), WIND), [plain, given])

    def test_rest_is_not_seen_with_one_person(self):
        style = (1, 1, ("first given", "given", "title"))
        self.assertEqual(len(states(style, 2)), 4)
        self.assertEqual([label[0] for label in path(style, TIDES)],
                         [(("smith", ""),), (("smith", "jo"),), (("smith", "jo"),)])

    def test_persons_that_are_shown_later_are_shown_by_rest(self):
        style = (1, 1, ("first initial", "given", "names"))
        self.assertEqual([label[0] for label in path(style, THREE)], [
            (("smith", ""),), (("smith", "j."),), (("smith", "jo"),), (("smith", "jo"), ("brown", "ann")),
            (("smith", "jo"), ("brown", "ann"), ("lee", "may")),
        ])
        self.assertEqual(path((1, 1, ("initials", "all")), THREE)[-1][0],
                         (("smith", "j."), ("brown", "a."), ("lee", "m.")))

    def test_given_names_of_one_letter_are_no_initials(self):
        source = ((("smith", "j"),), 2020, "on wind")
        self.assertEqual([label[0][0][1] for label in path((1, 1, ("initials", "given")), source)], ["", "j.", "j"])

    def test_titles_are_shown_from_their_step_on(self):
        self.assertEqual([label[3] for label in path((1, 1, ("initials", "title", "given")), WIND)],
                         [None, None, "on wind", "on wind"])

    def test_all_steps_word_by_word(self):
        for k, steps in enumerate(reading.all_steps()):
            for source in (near.sources(2)[k % 40], ((near.PERSONS * 2)[:k % 5 + 1], 3, "t")):
                style = (k % 3 + 1, k % 2 * (k % 3) + 1, steps)
                self.assertEqual(path(style, source), list(reading.path(style, source)))

    def test_each_label_says_more_than_the_one_ahead(self):
        known = near.sources(3)
        for style in near.styles():
            for source in known[::9]:
                found = path(style, source)
                fitted = [[reading.fits(label, other) for other in known] for label in found]
                for label, marks in zip(found, fitted):
                    self.assertTrue(is_label(label) and label[4] == "" and reading.fits(label, source))
                for marks, ahead in zip(fitted[1:], fitted):
                    self.assertTrue(all([other or not mark for mark, other in zip(marks, ahead)]))

    def test_arguments_by_name(self):
        self.assertEqual(path(source=WIND, style=(1, 1, ())), [((("smith", ""),), False, 2020, None, "")])

    def test_wrong_styles(self):
        for value in WRONG_STYLES:
            self.assertRaises(InvalidStyle, path, value, TIDES)

    def test_wrong_sources(self):
        for value in list(STRANGE) + samples.spoiled_sources() + [SHELF, STYLE]:
            self.assertRaises(InvalidSource, path, STYLE, value)

    def test_the_style_is_checked_first(self):
        self.assertRaises(InvalidStyle, path, None, None)
        self.assertRaises(InvalidStyle, path, source=replaced(TIDES, 1, -1), style=replaced(STYLE, 0, 0))


if __name__ == "__main__":
    unittest.main()
