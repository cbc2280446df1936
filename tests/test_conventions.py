import copy
import doctest
import inspect
import unittest

from samples import LIBRARY, ONE, TIDES, TWO
from sourcelabels import labels, letters, sources

INTERFACE = (
    (letters, "letters_of", ["number"]),
    (letters, "number_of", ["letters"]),
    (sources, "is_source", ["value"]),
    (sources, "is_library", ["value"]),
    (sources, "sorted_library", ["library"]),
    (sources, "places_by_name", ["library", "family"]),
    (sources, "years_of", ["library"]),
    (labels, "is_label", ["value"]),
    (labels, "fits", ["label", "source"]),
    (labels, "narrower", ["label", "other"]),
    (labels, "fitting", ["library", "label"]),
    (labels, "common", ["label", "other"]),
    (labels, "outside", ["label", "other"]),
)

VALUES = {
    "number": 5, "letters": "f", "value": TIDES, "library": LIBRARY, "family": "smith", "label": ONE, "other": TWO,
    "source": TIDES,
}

EXAMPLE = """
>>> from sourcelabels.letters import letters_of, number_of
>>> from sourcelabels.labels import common, fits, narrower, outside
>>> [letters_of(k) for k in (0, 25, 26, 27)]
['a', 'z', 'aa', 'ab']
>>> number_of('ba')
52
>>> one = ((('smith', ''),), True, 2020, None, '')
>>> two = ((('smith', 'j.'), ('brown', '')), True, 2020, None, '')
>>> fits(one, ((('smith', 'jo'), ('brown', 'ann')), 2020, 'on tides'))
True
>>> [narrower(two, one), narrower(one, two)]
[True, False]
>>> common(two, ((('smith', 'jo'),), True, 2020, 'on tides', 'b'))
((('smith', 'jo'), ('brown', '')), True, 2020, 'on tides', '')
>>> fits(two, outside(one, two))
False
>>> outside(two, one) is None
True
"""


class Conventions(unittest.TestCase):
    """[1], [2] and the interface, for all functions at once."""

    def test_functions_are_defined_in_their_files(self):
        for module, name, _ in INTERFACE:
            self.assertEqual(getattr(module, name).__module__, module.__name__)

    def test_names_and_order_of_the_arguments(self):
        for module, name, parameters in INTERFACE:
            self.assertEqual(list(inspect.signature(getattr(module, name)).parameters), parameters)

    def test_arguments_by_position_or_by_name(self):
        for module, name, parameters in INTERFACE:
            function = getattr(module, name)
            values = [VALUES[parameter] for parameter in parameters]
            by_name = {parameter: VALUES[parameter] for parameter in parameters}
            self.assertEqual(function(*values), function(**by_name))

    def test_arguments_do_not_change(self):
        for module, name, parameters in INTERFACE:
            values = [VALUES[parameter] for parameter in parameters]
            before = copy.deepcopy(values)
            getattr(module, name)(*values)
            self.assertEqual(values, before)

    def test_wrong_arguments_do_not_change(self):
        for function in (sources.is_source, sources.is_library, labels.is_label):
            value = [list(TIDES), {"a": [1]}]
            function(value)
            function((value,))
            self.assertEqual(value, [list(TIDES), {"a": [1]}])

    def test_results_do_not_depend_on_earlier_calls(self):
        for module, name, parameters in INTERFACE:
            values = [VALUES[parameter] for parameter in parameters]
            first = getattr(module, name)(*values)
            known = copy.deepcopy(first)
            second = getattr(module, name)(*values)
            self.assertEqual(second, known)
            if isinstance(first, list):
                self.assertIsNot(first, second)
                first.append("x")
                self.assertEqual(second, known)
                self.assertEqual(getattr(module, name)(*values), known)


class Limits(unittest.TestCase):
    """[2] and [3]: arguments at the limits and beyond are taken, in polynomial time."""

    def test_large_libraries(self):
        people = tuple([("a" * 12, "b" * 12)] * 12)
        library = tuple([(people, 10 ** 40 - number, "a " * 19 + "b") for number in range(200)])
        self.assertEqual(sources.sorted_library(library), library[::-1])
        self.assertEqual(sources.places_by_name(library, "a" * 12), list(range(200)))
        self.assertEqual(len(sources.years_of(library)), 200)
        label = (tuple([("a" * 12, "b.")] * 11), True, 10 ** 40 - 7, None, "z" * 4000)
        self.assertEqual(labels.fitting(library, label), [7])

    def test_labels_with_many_pairs(self):
        pairs = tuple([("a", "")] * 60)
        initials = tuple([("a", "a.")] * 59)
        label, other = (pairs, True, 10 ** 39, None, ""), (initials, True, 10 ** 39, "a" * 40, "")
        self.assertEqual(labels.common(label, other), (initials + pairs[:1], True, 10 ** 39, "a" * 40, ""))
        self.assertIs(labels.narrower(label, other), False)
        self.assertIs(labels.fits(label, labels.outside(label, other)), True)


class Example(unittest.TestCase):
    """The example of section 4."""

    def test_the_example(self):
        test = doctest.DocTestParser().get_doctest(EXAMPLE, {}, "section 4", None, None)
        told = []
        result = doctest.DocTestRunner().run(test, out=told.append)
        self.assertEqual(result.failed, 0, "".join(told))
        self.assertEqual(result.attempted, 11)


if __name__ == "__main__":
    unittest.main()
