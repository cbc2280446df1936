import copy
import doctest
import inspect
import pathlib
import time
import unittest

import near
from reading import labels as labels_of
from samples import LIBRARY, ONE, SHELF, STYLE, THREE, TIDES, TWO, WAVES
from sourcelabels import (
    alike, changes, errors, groups, kinds, labels, learning, letters, live, needs, objects, orders, shapes, sources,
    styles, texts,
)

BARE = (1, 1, ("initials",))
FLAT = (2, 1, ("all", "first initial", "names", "title"))
SAME = tuple([((("smith", "jo"),), 2020, title) for title in ("on c", "on a", "on b")])
NEW = ((("smith", "jo"),), 2020, "on aa")

# The functions of the interface with arguments, in the order of their parameters.
INTERFACE = (
    (letters, "letters_of", {"number": 5}),
    (letters, "number_of", {"letters": "f"}),
    (sources, "is_source", {"value": TIDES}),
    (sources, "is_library", {"value": LIBRARY}),
    (sources, "sorted_library", {"library": LIBRARY}),
    (sources, "places_by_name", {"library": LIBRARY, "family": "smith"}),
    (sources, "years_of", {"library": LIBRARY}),
    (labels, "is_label", {"value": ONE}),
    (labels, "fits", {"label": ONE, "source": TIDES}),
    (labels, "narrower", {"label": ONE, "other": TWO}),
    (labels, "fitting", {"library": LIBRARY, "label": ONE}),
    (labels, "common", {"label": ONE, "other": TWO}),
    (labels, "outside", {"label": ONE, "other": TWO}),
    (styles, "is_style", {"value": STYLE}),
    (styles, "states", {"style": STYLE, "people": 3}),
    (styles, "path", {"style": STYLE, "source": THREE}),
    (needs, "need", {"style": STYLE, "source": THREE, "other": WAVES}),
    (needs, "place_of", {"style": STYLE, "library": SHELF, "index": 0}),
    (needs, "label_of", {"style": BARE, "library": SAME, "index": 1}),
    (needs, "labels", {"style": BARE, "library": SAME}),
    (needs, "reason", {"style": STYLE, "library": SHELF, "index": 0}),
    (needs, "forced_by", {"style": STYLE, "library": SHELF, "index": 0}),
    (needs, "lookup", {"style": STYLE, "library": SHELF, "label": ((("smith", ""),), False, 2020, None, "")}),
    (needs, "printing", {"style": BARE, "library": SAME}),
    (needs, "stale", {"style": BARE, "library": SAME}),
    (groups, "letter_groups", {"style": BARE, "library": SAME + (WAVES,)}),
    (groups, "without_letters", {"style": BARE, "library": SAME + (WAVES,)}),
    (groups, "plain", {"style": STYLE, "library": SHELF}),
    (changes, "coming", {"style": BARE, "library": SAME, "source": NEW}),
    (changes, "leaving", {"style": BARE, "library": SAME, "index": 1}),
    (changes, "is_quiet", {"style": BARE, "library": SAME, "source": NEW}),
    (changes, "joining", {"style": BARE, "library": SAME, "other": (NEW, SAME[0])}),
    (changes, "settled", {"style": (1, 1, ("given", "title")), "library": SAME}),
    (changes, "can_become", {"style": STYLE, "library": SHELF, "index": 0}),
    (changes, "newcomer", {"style": STYLE, "library": SHELF, "index": 0, "place": 3}),
    (orders, "old_in", {"style": STYLE, "library": SHELF, "order": [3, 1, 2, 0]}),
    (orders, "fewest_old", {"style": STYLE, "library": SHELF}),
    (orders, "good_order", {"style": STYLE, "library": SHELF}),
    (alike, "alike", {"style": STYLE, "other": FLAT, "people": 1}),
    (alike, "never_longer", {"style": STYLE, "other": FLAT, "people": 3}),
    (alike, "alike_behind", {"style": STYLE, "other": FLAT, "library": SHELF}),
    (alike, "difference", {"style": STYLE, "other": FLAT, "people": 3}),
    (alike, "longer_library", {"style": FLAT, "other": STYLE, "people": 3}),
    (alike, "idle_steps", {"style": FLAT, "people": 3}),
    (alike, "trimmed", {"style": FLAT, "people": 3}),
    (alike, "least_apart", {"style": STYLE, "other": FLAT}),
    (shapes, "shapes", {"source": THREE}),
    (shapes, "alone", {"library": SHELF, "index": 0}),
    (shapes, "widest_alone", {"library": SHELF, "index": 0}),
    (shapes, "shortest", {"library": SHELF, "index": 0}),
    (learning, "gives", {"style": BARE, "library": SAME, "told": labels_of(BARE, SAME)}),
    (learning, "styles_for", {"library": SAME, "told": labels_of(BARE, SAME), "most": 2}),
    (learning, "first_style", {"library": SAME, "told": labels_of(BARE, SAME), "most": 2}),
    (learning, "count_styles", {"library": SAME, "told": labels_of(BARE, SAME), "most": 2}),
    (texts, "format_label", {"label": TWO}),
    (texts, "format_source", {"source": THREE}),
    (texts, "format_style", {"style": STYLE}),
    (texts, "format_library", {"library": SHELF}),
    (texts, "parse_label", {"text": "j. smith, brown et al. 2020"}),
    (texts, "parse_source", {"text": "smith jo; 2020; on wind"}),
    (texts, "parse_style", {"text": "most 2, kept 1: names"}),
    (texts, "parse_library", {"lines": ["smith jo; 2020; on wind", "smith jo; 2021; on rain"]}),
)

# The classes of the interface with the parameters of their constructors, their methods, their properties.
CLASSES = (
    (objects, "Label", ["label"],
     {"__call__": ["source"], "__contains__": None, "__and__": None, "__eq__": None, "__len__": None}, ["label"]),
    (objects, "Library", ["style", "library"],
     {"__call__": ["source"], "__add__": None, "__eq__": None, "__len__": None, "__contains__": None},
     ["style", "library"]),
    (live, "LiveLibrary", ["style", "library"],
     {"come": ["source"], "go": ["index"], "undo": [], "try_changes": ["changes"], "told_words": [], "__len__": [],
      "read": ["style_text"], "is_valid": ["value"]}, ["library_now", "labels_now"]),
    (kinds, "StrictLibrary", ["style", "library"], {"told_words": []}, []),
    (kinds, "BoundedLibrary", ["style", "library", "most"], {"told_words": []}, []),
    (kinds, "StrictBoundedLibrary", ["style", "library", "most"], {}, []),
)

LABELS_EXAMPLE = """
>>> from sourcelabels.letters import letters_of, number_of
>>> from sourcelabels.labels import common, fits, narrower, outside
>>> [letters_of(k) for k in (0, 25, 26, 27)]
['a', 'z', 'aa', 'ab']
>>> number_of('ba')
52
>>> one = ((('smith', ''),), True, 2020, None, '')
>>> two = ((('smith', 'j.'), ('brown', '')), True, 2020, None, '')
>>> fits(one, ((('smith', 'jo'), ('brown', 'ann')), 2020, 'on tides'))
True
>>> [narrower(two, one), narrower(one, two)]
[True, False]
>>> common(two, ((('smith', 'jo'),), True, 2020, 'on tides', 'b'))
((('smith', 'jo'), ('brown', '')), True, 2020, 'on tides', '')
>>> fits(two, outside(one, two))
False
>>> outside(two, one) is None
True
"""

NEEDS_EXAMPLE = """
>>> from sourcelabels.texts import format_label, parse_library, parse_style
>>> from sourcelabels.needs import labels, printing, reason, stale
>>> from sourcelabels.styles import path, states
>>> s = parse_style('most 2, kept 1: names, first initial, title')
>>> states(s, 3)
[(1, 0, 0, False), (2, 0, 0, False), (3, 0, 0, False), (3, 1, 0, False), (3, 1, 0, True)]
>>> b = parse_library(['smith jo, brown ann, lee may; 2020; on tides', 'smith al, brown ann, king bo; 2020; on waves', 'smith jo; 2020; on wind', 'smith jo; 2021; on rain'])
>>> [format_label(x) for x in labels(s, b)]
['smith, brown, lee 2020', 'smith, brown, king 2020', 'smith 2020', 'smith 2021']
>>> [format_label(x) for x in path(s, b[0])][:2]
['smith et al. 2020', 'smith, brown et al. 2020']
>>> [reason(s, b, k) for k in (0, 1, 2)]
[1, 0, None]
>>> [(format_label(x), changed) for x, changed in printing(s, b)][:2]
[('smith et al. 2020', []), ('smith, brown, king 2020', [0])]
>>> stale(s, b)
[0]
"""

ALIKE_EXAMPLE = """
>>> from sourcelabels.alike import alike, difference, idle_steps, least_apart, trimmed
>>> s = (3, 1, ('names', 'first initial', 'all'))
>>> t = (3, 1, ('all', 'first initial'))
>>> [alike(s, t), alike(s, t, 3), least_apart(s, t)]
[False, True, 4]
>>> len(difference(s, t))
2
>>> [idle_steps(s), trimmed(s)]
[[2], (3, 1, ('names', 'first initial'))]
"""


LIVE_EXAMPLE = """
>>> from sourcelabels.texts import parse_label, parse_source, parse_style
>>> from sourcelabels.objects import Label, Library
>>> from sourcelabels.live import LiveLibrary
>>> Label(parse_label('smith et al. 2020'))(parse_source('smith jo, brown ann; 2020; on tides'))
True
>>> s = parse_style('most 2, kept 1: first initial')
>>> live = LiveLibrary(s)
>>> live.come(parse_source('smith jo; 2020; on tides'))
0
>>> live.come(parse_source('smith al; 2020; on waves'))
1
>>> live.labels_now[0]
((('smith', 'j.'),), False, 2020, None, '')
>>> live.undo()
'come'
"""


def whole(answer):
    """An answer, or the list of all that a generator yields."""
    return list(answer) if inspect.isgenerator(answer) else answer


def call(module, name, arguments):
    return whole(getattr(module, name)(*arguments.values()))


def lists_in(value):
    """All lists in an answer, at any depth."""
    inner = [found for part in value for found in lists_in(part)] if isinstance(value, (list, tuple)) else []
    return inner + [value] if isinstance(value, list) else inner


class Conventions(unittest.TestCase):
    """[1], [2] and the interface, for all functions at once."""

    def test_functions_are_defined_in_their_files(self):
        for module, name, _ in INTERFACE:
            self.assertEqual(getattr(module, name).__module__, module.__name__)

    def test_names_and_order_of_the_arguments(self):
        for module, name, arguments in INTERFACE:
            self.assertEqual(list(inspect.signature(getattr(module, name)).parameters), list(arguments))

    def test_arguments_by_position_or_by_name(self):
        for module, name, arguments in INTERFACE:
            function = getattr(module, name)
            backwards = {parameter: arguments[parameter] for parameter in reversed(arguments)}
            self.assertEqual(whole(function(**backwards)), call(module, name, arguments))

    def test_arguments_do_not_change(self):
        for module, name, arguments in INTERFACE:
            before = copy.deepcopy(arguments)
            call(module, name, arguments)
            self.assertEqual(arguments, before)

    def test_wrong_arguments_do_not_change(self):
        for function in (sources.is_source, sources.is_library, labels.is_label, styles.is_style):
            value = [list(TIDES), {"a": [1]}]
            function(value)
            function((value,))
            function((2, 1, value))
            self.assertEqual(value, [list(TIDES), {"a": [1]}])
        for function, value in ((texts.parse_library, ["x", "smith jo; 2020; a"]), (texts.parse_label, ["smith 2020"])):
            before = list(value)
            self.assertRaises(errors.InvalidText, function, value)
            self.assertEqual(value, before)
        order = [3, 2, 1, 1]
        self.assertRaises(errors.InvalidOrder, orders.old_in, STYLE, SHELF, order)
        self.assertEqual(order, [3, 2, 1, 1])

    def test_returned_lists_are_new(self):
        for module, name, arguments in INTERFACE:
            answers = [call(module, name, arguments) for _ in range(2)]
            lists = lists_in(answers[0]) + lists_in(answers[1])
            self.assertEqual(len(set([id(found) for found in lists])), len(lists), name)

    def test_results_do_not_depend_on_earlier_calls(self):
        for module, name, arguments in INTERFACE:
            first = call(module, name, arguments)
            known = copy.deepcopy(first)
            second = call(module, name, arguments)
            self.assertEqual(second, known)
            for found in lists_in(first):
                found.append("x")
            self.assertEqual(second, known)
            self.assertEqual(call(module, name, arguments), known)

    def test_the_arguments_above_tell_something(self):
        """An empty answer could not show that lists are new."""
        for module, name, arguments in INTERFACE:
            self.assertNotIn(call(module, name, arguments), ([], None), name)


class Classes(unittest.TestCase):
    """The classes of the interface."""

    def test_classes_are_defined_in_their_files(self):
        for module, name, _, _, _ in CLASSES:
            self.assertEqual(getattr(module, name).__module__, module.__name__)

    def test_constructors(self):
        for module, name, parameters, _, _ in CLASSES:
            found = inspect.signature(getattr(module, name)).parameters
            self.assertEqual(list(found), parameters)
            defaults = {key: found[key].default for key in found if name not in ("Label", "Library")}
            self.assertEqual([defaults.get("library", ()), defaults.get("most", 30)], [(), 30])

    def test_class_values(self):
        self.assertEqual(vars(live.LiveLibrary)["EMPTY"], ())

    def test_each_method_is_defined_in_the_class_itself(self):
        for module, name, _, methods, properties in CLASSES:
            own = vars(getattr(module, name))
            for method, parameters in methods.items():
                self.assertIn(method, own)
                if parameters is not None:
                    function = getattr(own[method], "__func__", own[method])
                    found = [key for key in inspect.signature(function).parameters if key not in ("self", "cls")]
                    self.assertEqual(found, parameters)
            for key in properties:
                self.assertIsInstance(own[key], property)

    def test_the_arguments_of_constructors_do_not_change(self):
        told = [ONE, STYLE, SHELF]
        before = copy.deepcopy(told)
        objects.Label(ONE)
        objects.Library(STYLE, SHELF)
        for kind in (live.LiveLibrary, kinds.StrictLibrary, kinds.BoundedLibrary, kinds.StrictBoundedLibrary):
            found = kind(STYLE, SHELF)
            found.come(TIDES)
            found.try_changes(("go", 2))
        self.assertEqual(told, before)


class Limits(unittest.TestCase):
    """[2] and [3]: arguments at the limits and beyond are taken, in polynomial time."""

    def test_large_libraries(self):
        people = tuple([("a" * 12, "b" * 12)] * 12)
        library = tuple([(people, 10 ** 40 - number, "a " * 19 + "b") for number in range(200)])
        self.assertEqual(sources.sorted_library(library), library[::-1])
        self.assertEqual(sources.places_by_name(library, "a" * 12), list(range(200)))
        self.assertEqual(len(sources.years_of(library)), 200)
        label = (tuple([("a" * 12, "b.")] * 11), True, 10 ** 40 - 7, None, "z" * 4000)
        self.assertEqual(labels.fitting(library, label), [7])

    def test_labels_with_many_pairs(self):
        pairs = tuple([("a", "")] * 60)
        initials = tuple([("a", "a.")] * 59)
        label, other = (pairs, True, 10 ** 39, None, ""), (initials, True, 10 ** 39, "a" * 40, "")
        self.assertEqual(labels.common(label, other), (initials + pairs[:1], True, 10 ** 39, "a" * 40, ""))
        self.assertIs(labels.narrower(label, other), False)
        self.assertIs(labels.fits(label, labels.outside(label, other)), True)

    def test_styles_and_libraries_at_the_limits(self):
        library, shelf = near.large_library(40), near.large_library(60)
        for style in near.LARGE_STYLES:
            for index in (0, 17, 39):
                self.assertIn(needs.label_of(style, library, index)[:4] + ("",), styles.path(style, library[index]))
                self.assertNotIn(index, needs.forced_by(style, library, index))
                self.assertNotEqual(needs.reason(style, library, index), index)
                path = styles.path(style, library[index])
                self.assertEqual(changes.can_become(style, library, index)[-1], path[-1])
                self.assertNotIn(changes.newcomer(style, library, index, len(path) - 1), library)
            self.assertEqual(changes.coming(style, shelf[:59], shelf[59]),
                             changes.joining(style, shelf[:59], shelf[:1] + shelf[59:]))
            self.assertEqual([(k, new, old) for k, old, new in changes.leaving(style, shelf, 59)],
                             changes.coming(style, shelf[:59], shelf[59]))

    def test_each_value_of_printing_in_a_moment(self):
        start = time.monotonic()
        for style in near.LARGE_STYLES:
            library = near.large_library(60)
            self.assertEqual(len(list(needs.printing(style, library))), 60)
            self.assertLess(len(needs.stale(style, library)), 60)
        self.assertLess(time.monotonic() - start, 20)

    def test_sources_with_many_people(self):
        source, other = [(tuple([("a", "b")] * many), 10 ** 39, "t") for many in (59, 60)]
        self.assertEqual(len(styles.path((1, 1, ("names",)), other)), 60)
        self.assertEqual(needs.need((1, 1, ("names",)), other, source), 58)
        self.assertEqual(needs.need((12, 12, ("all",)), source, other), 1)


class Example(unittest.TestCase):
    """The examples of the document and of README.md."""

    def check(self, text, name, many):
        test = doctest.DocTestParser().get_doctest(text, {}, name, None, None)
        told = []
        result = doctest.DocTestRunner().run(test, out=told.append)
        self.assertEqual(result.failed, 0, "".join(told))
        self.assertEqual(result.attempted, many)

    def test_section_4(self):
        self.check(LABELS_EXAMPLE, "section 4", 11)

    def test_section_5(self):
        self.check(NEEDS_EXAMPLE, "section 5", 11)

    def test_section_9(self):
        self.check(ALIKE_EXAMPLE, "section 9", 6)

    def test_section_14(self):
        self.check(LIVE_EXAMPLE, "section 14", 10)

    def test_the_readme(self):
        text = pathlib.Path(__file__).parent.parent.joinpath("README.md").read_text(encoding="utf-8")
        self.check(text, "README.md", 35)


if __name__ == "__main__":
    unittest.main()
