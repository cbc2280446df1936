import copy
import itertools
import unittest

import near
import reading
import samples
from samples import LIBRARY, ONE, RAIN, SHELF, STRANGE, STYLE, THREE, TIDES, TWO, WAVES, WIND, replaced
from sourcelabels.changes import joining
from sourcelabels.errors import (
    InvalidLabel, InvalidLibrary, InvalidSource, InvalidStyle, NotALabel, NotALibrary, NothingCommon, NotThere, OtherStyle,
)
from sourcelabels.labels import common, fits, narrower
from sourcelabels.live import LiveLibrary
from sourcelabels.needs import label_of, labels
from sourcelabels.objects import Label, Library
from sourcelabels.texts import parse_label, parse_library

SOME = [parse_label(text) for text in (
    "smith et al. 2020", "smith 2020", "j. smith et al. 2020", "jo smith et al. 2020b", "smith, brown 2020",
    "smith, brown et al. 2020", "smith, a. brown et al. 2020", 'smith et al. 2020 "on tides"', "smith et al. 2021",
    'jo smith, ann brown 2020 "on tides"', "brown et al. 2020", "smith et al. 2020a", 'smith 2020 "on wind"',
)]

BARE = (1, 1, ("initials",))
SAME = parse_library(["smith jo; 2020; on c", "smith jo; 2020; on a", "smith jo; 2020; on b"])


class Labels(unittest.TestCase):
    """[35]"""

    def test_a_call_tells_whether_the_label_fits(self):
        for label in SOME + [ONE, TWO]:
            for source in LIBRARY + SHELF:
                self.assertIs(Label(label)(source), reading.fits(label, source))

    def test_a_label_in_another_one(self):
        for label, other in itertools.product(SOME, repeat=2):
            self.assertIs(Label(label) in Label(other), narrower(label, other))
        self.assertIs(Label(TWO) in Label(ONE), True)
        self.assertIs(Label(ONE) in Label(TWO), False)
        self.assertIs(Label(ONE) not in Label(ONE), False)

    def test_a_source_in_a_label(self):
        for label in SOME:
            for source in LIBRARY + SHELF:
                self.assertIs(source in Label(label), fits(label, source))

    def test_any_other_value_is_in_no_label(self):
        values = list(STRANGE) + samples.spoiled_sources() + SOME + [Library(STYLE, SHELF), STYLE, SHELF, "smith 2020"]
        for value in values:
            for label in SOME[:3]:
                self.assertIs(value in Label(label), False)

    def test_the_common_label(self):
        many = 0
        for label, other in itertools.product(SOME, repeat=2):
            expected = common(label, other)
            if expected is None:
                with self.assertRaises(NothingCommon):
                    Label(label) & Label(other)
                many += 1
            else:
                found = Label(label) & Label(other)
                self.assertIs(type(found), Label)
                self.assertEqual(found.label, expected)
        self.assertGreater(many, 10)
        self.assertEqual((Label(TWO) & Label(parse_label('jo smith et al. 2020b "a"'))).label,
                         parse_label('jo smith, brown et al. 2020 "a"'))

    def test_the_common_label_of_any_other_value(self):
        for value in list(STRANGE) + [ONE, TIDES, "smith 2020", Library(STYLE, SHELF), 1]:
            with self.assertRaises(NotALabel):
                Label(ONE) & value

    def test_equal_labels(self):
        for label, other in itertools.product(SOME, repeat=2):
            self.assertIs(Label(label) == Label(other), label[:4] == other[:4])
            self.assertIs(Label(label) != Label(other), label[:4] != other[:4])

    def test_labels_that_are_equal_but_for_the_letters(self):
        self.assertIs(Label(ONE) == Label(replaced(ONE, 4, "ab")), True)
        self.assertIs(Label(replaced(ONE, 4, "a")) == Label(replaced(ONE, 4, "b")), True)
        self.assertIs(Label(ONE) == Label(replaced(ONE, 1, False)), False)

    def test_no_other_value_is_equal(self):
        for value in [value for value in STRANGE if not isinstance(value, samples.EqualToAll)] + [ONE, "smith 2020"]:
            self.assertIs(Label(ONE) == value, False)
            self.assertIs(Label(ONE) != value, True)
        self.assertIs(Label(ONE) == Library(STYLE, SHELF), False)
        self.assertIs(Label(ONE).__eq__(samples.EqualToAll()), False)

    def test_the_number_of_pairs(self):
        self.assertEqual([len(Label(label)) for label in (ONE, TWO)], [1, 2])
        self.assertEqual(len(Label(((("a", ""),) * 12, True, 0, None, ""))), 12)

    def test_the_label_as_a_tuple(self):
        for label in SOME:
            self.assertEqual(Label(label).label, label)
            self.assertIs(type(Label(label).label), tuple)

    def test_objects_do_not_change(self):
        one, two = Label(ONE), Label(replaced(TWO, 4, "b"))
        before = [copy.deepcopy(vars(found)) for found in (one, two)]
        one & two, one == two, two in one, TIDES in one, one(TIDES), len(one)
        with self.assertRaises(NothingCommon):
            one & Label(SOME[8])
        with self.assertRaises(InvalidSource):
            one(None)
        self.assertEqual([vars(found) for found in (one, two)], before)
        with self.assertRaises(AttributeError):
            one.label = TWO

    def test_wrong_labels(self):
        for value in list(STRANGE) + samples.spoiled_labels() + [Label(ONE)]:
            self.assertRaises(InvalidLabel, Label, value)

    def test_wrong_sources(self):
        for value in list(STRANGE) + samples.spoiled_sources() + [Label(ONE), ONE]:
            self.assertRaises(InvalidSource, Label(ONE), value)

    def test_arguments_by_name(self):
        self.assertEqual(Label(label=ONE).label, ONE)
        self.assertIs(Label(label=ONE)(source=TIDES), True)


class Libraries(unittest.TestCase):
    """[36]"""

    def test_a_call_tells_the_label_of_a_source(self):
        for style, library in near.cases()[::5]:
            told = Library(style, library)
            self.assertEqual([told(source) for source in library], reading.labels(style, library))

    def test_labels_with_letters(self):
        told = Library(BARE, SAME)
        self.assertEqual([told(source)[4] for source in SAME], ["c", "a", "b"])
        self.assertEqual([told(source) for source in SAME], [label_of(BARE, SAME, index) for index in range(3)])

    def test_values_that_are_none_of_the_sources(self):
        values = list(STRANGE) + samples.spoiled_sources() + [RAIN, replaced(WIND, 1, 2019), ONE, 0, SHELF, STYLE]
        for value in values:
            self.assertRaises(NotThere, Library(STYLE, SHELF), value)
            self.assertIs(value in Library(STYLE, SHELF), False)
        for source in SHELF:
            self.assertIs(source in Library(STYLE, SHELF), True)
            self.assertRaises(NotThere, Library(STYLE, ()), source)
        self.assertIs(((("smith", "jo"),), 2020, "on wind") in Library(STYLE, SHELF), True)

    def test_sums(self):
        for first, second in ((SHELF[:2], SHELF[2:]), (SHELF, LIBRARY), (SHELF, SHELF), (SHELF, ()), ((), SHELF), ((), ()),
                              (SHELF[::-1], SHELF), (SHELF[1:3], SHELF[::-1])):
            found = Library(STYLE, first) + Library(STYLE, second)
            self.assertIs(type(found), Library)
            self.assertEqual(found.library, first + tuple([source for source in second if source not in first]))
            self.assertEqual(found.style, STYLE)
            self.assertEqual(len(found), len(found.library))

    def test_the_labels_of_a_sum_are_what_joining_tells(self):
        libraries = near.libraries()
        for k, (style, library) in enumerate(near.cases()[::3]):
            other = libraries[k * 31 % len(libraries)]
            first = Library(style, library)
            both = first + Library(style, other)
            changed = [(index, first(source), both(source)) for index, source in enumerate(library)
                       if first(source) != both(source)]
            self.assertEqual(changed, joining(style, library, other))

    def test_sums_with_any_other_value(self):
        for value in list(STRANGE) + [Label(ONE), LiveLibrary(STYLE, SHELF), SHELF, STYLE, 0, ""]:
            with self.assertRaises(NotALibrary):
                Library(STYLE, SHELF) + value

    def test_sums_of_other_styles(self):
        for style in (BARE, replaced(STYLE, 0, 3), replaced(STYLE, 1, 2), replaced(STYLE, 2, STYLE[2][::-1])):
            for library in (SHELF, (), LIBRARY):
                with self.assertRaises(OtherStyle):
                    Library(STYLE, SHELF) + Library(style, library)

    def test_equal_libraries(self):
        self.assertIs(Library(STYLE, SHELF) == Library((2, 1, ("names", "first initial", "title")), tuple(list(SHELF))), True)
        self.assertIs(Library(STYLE, SHELF) != Library(STYLE, SHELF), False)
        for other in (Library(STYLE, SHELF[::-1]), Library(STYLE, SHELF[:3]), Library(BARE, SHELF), Label(ONE), SHELF,
                      (STYLE, SHELF), LiveLibrary(STYLE, SHELF), None):
            self.assertIs(Library(STYLE, SHELF) == other, False)
            self.assertIs(Library(STYLE, SHELF) != other, True)
        # Letters count in nothing here: the libraries and the styles have to be equal.
        self.assertIs(Library(STYLE, ()) == Library(BARE, ()), False)
        self.assertIs(Library(STYLE, SHELF).__eq__(samples.EqualToAll()), False)

    def test_the_number_of_sources(self):
        self.assertEqual([len(Library(STYLE, library)) for library in ((), (WIND,), SHELF)], [0, 1, 4])

    def test_the_properties(self):
        for style, library in near.cases()[::50]:
            told = Library(style, library)
            self.assertEqual([told.style, told.library], [style, library])
            self.assertEqual([type(told.style), type(told.library)], [tuple, tuple])

    def test_objects_do_not_change(self):
        one, two = Library(STYLE, SHELF), Library(STYLE, LIBRARY)
        before = [copy.deepcopy(vars(found)) for found in (one, two)]
        one + two, one == two, WIND in one, one(WIND), len(two), one + one
        with self.assertRaises(OtherStyle):
            one + Library(BARE, LIBRARY)
        with self.assertRaises(NotThere):
            one(RAIN)
        self.assertEqual([vars(found) for found in (one, two)], before)
        for name in ("style", "library"):
            with self.assertRaises(AttributeError):
                setattr(one, name, ())

    def test_sums_do_not_disturb_one_another(self):
        one, two = Library(STYLE, (THREE,)), Library(STYLE, (WAVES,))
        both = one + two
        self.assertEqual([both(source) for source in SHELF[:2]], labels(STYLE, SHELF[:2]))
        self.assertEqual([one(THREE), two(WAVES)], labels(STYLE, (THREE,)) + labels(STYLE, (WAVES,)))
        self.assertRaises(NotThere, one, WAVES)

    def test_wrong_arguments(self):
        for value in list(STRANGE) + samples.spoiled_styles():
            self.assertRaises(InvalidStyle, Library, value, SHELF)
        for value in list(STRANGE) + samples.spoiled_libraries() + [Library(STYLE, SHELF)]:
            self.assertRaises(InvalidLibrary, Library, STYLE, value)
        self.assertRaises(InvalidStyle, Library, None, None)

    def test_arguments_by_name(self):
        told = Library(library=SHELF, style=STYLE)
        self.assertEqual([told.style, told.library], [STYLE, SHELF])
        self.assertEqual(told(source=WIND), parse_label("smith 2020"))


if __name__ == "__main__":
    unittest.main()
