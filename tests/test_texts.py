import itertools
import re
import unittest

import near
import reading
import samples
from samples import LIBRARY, ONE, RAIN, SHELF, STRANGE, STYLE, THREE, TIDES, TWO, WAVES, WIND
from sourcelabels.errors import InvalidLabel, InvalidLibrary, InvalidSource, InvalidStyle, InvalidText
from sourcelabels.texts import (
    format_label, format_library, format_source, format_style, parse_label, parse_library, parse_source, parse_style,
)

# Labels, sources and styles with their texts.
LABELS = (
    (ONE, "smith et al. 2020"),
    (TWO, "j. smith, brown et al. 2020"),
    (((("smith", ""),), False, 2020, None, ""), "smith 2020"),
    (((("smith", ""),), False, 2020, None, "b"), "smith 2020b"),
    (((("smith", ""),), True, 0, None, "zz"), "smith et al. 0zz"),
    (((("smith", "jo"), ("brown", "a."), ("lee", "")), False, 2020, None, ""), "jo smith, a. brown, lee 2020"),
    (((("smith", ""),), False, 2020, "on tides", ""), 'smith 2020 "on tides"'),
    (((("smith", "j"),), True, 7, "a", "aa"), 'j smith et al. 7aa "a"'),
    (((("et", ""),), True, 2020, "et al", "et"), 'et et al. 2020et "et al"'),
    (((("al", "et"), ("et", "e.")), True, 1, None, "al"), "et al, e. et et al. 1al"),
    (((("a" * 12, "b" * 12),) * 12, True, 10 ** 40 - 1, "a " * 19 + "b", "c" * 100),
     ", ".join(["b" * 12 + " " + "a" * 12] * 12) + " et al. " + "9" * 40 + "c" * 100 + ' "' + "a " * 19 + 'b"'),
)
SOURCES = (
    (TIDES, "smith jo, brown ann; 2020; on tides"),
    (WIND, "smith jo; 2020; on wind"),
    (RAIN, "lee may, smith jo; 1999; on rain"),
    (((("a", "b"),), 0, "c"), "a b; 0; c"),
    (((("a" * 12, "b" * 12),) * 8, 10 ** 39, "a" * 40),
     ", ".join(["a" * 12 + " " + "b" * 12] * 8) + "; 1" + "0" * 39 + "; " + "a" * 40),
)
STYLES = (
    (STYLE, "most 2, kept 1: names, first initial, title"),
    ((1, 1, ()), "most 1, kept 1"),
    ((12, 5, ("all",)), "most 12, kept 5: all"),
    ((3, 3, reading.WORDS), "most 3, kept 3: names, all, first initial, initials, first given, given, title"),
    ((10 ** 40 - 1, 10 ** 39, ("title", "given")), "most " + "9" * 40 + ", kept 1" + "0" * 39 + ": title, given"),
    ((10 ** 39, 1, ()), "most 1" + "0" * 39 + ", kept 1"),
)
PAIRS = (
    (format_label, parse_label, LABELS), (format_source, parse_source, SOURCES), (format_style, parse_style, STYLES),
)

# [34] as patterns; a style also has to keep no more than most and to have different steps.
NAME = "[a-z]{1,12}"
TITLE = "(?=.{1,40}$)[a-z]+( [a-z]+)*"
NUMBER = "(0|[1-9][0-9]*)"
PAIR = f"(({NAME}|[a-z][.]) )?{NAME}"
LABEL_TEXT = re.compile(f'{PAIR}(, {PAIR})*( et al[.])? {NUMBER}[a-z]*( "(?=.{{1,41}}$)[a-z]+( [a-z]+)*")?')
SOURCE_TEXT = re.compile(f"{NAME} {NAME}(, {NAME} {NAME})*; {NUMBER}; {TITLE}")
STEP = "(" + "|".join(reading.WORDS) + ")"
STYLE_TEXT = re.compile(f"most ([1-9][0-9]*), kept ([1-9][0-9]*)(: {STEP}(, {STEP})*)?")

SIGNS = ' ,;:."ab09-_A%+\n\t\u00e4\u0661\u00a0'


def is_style_text(text):
    """Whether a text is that of a style."""
    found = STYLE_TEXT.fullmatch(text)
    steps = text.partition(": ")[2].split(", ")
    return found is not None and int(found[2]) <= int(found[1]) and len(set(steps)) == len(steps)


def spoiled_texts(text):
    """Texts that differ from a text in a sign or two."""
    found = [text + text, text.upper(), text.title(), text[::-1], text + "\n", "\n" + text]
    for at in range(len(text) + 1):
        found += [text[:at] + sign + text[at:] for sign in SIGNS]
        found += [text[:at], text[at:], text[:at] + text[at + 1:], text[:at] + "  " + text[at:]]
        found += [text[:at] + sign + text[at + 1:] for sign in SIGNS]
        found += [text[:at] + text[at + 1:at + 2] + text[at:at + 1] + text[at + 2:]]
    return found


class BackAndForth(unittest.TestCase):
    """The texts of [34], written and read."""

    def test_texts(self):
        for write, read, pairs in PAIRS:
            for value, text in pairs:
                self.assertEqual(write(value), text)
                self.assertEqual(read(text), value)

    def test_kinds_of_values(self):
        """Equal values could still be of other kinds, such as lists in the place of tuples."""
        for write, read, pairs in PAIRS:
            for value, text in pairs:
                self.assertEqual(repr(read(text)), repr(value))
                self.assertIs(type(write(value)), str)

    def test_libraries(self):
        for library in (LIBRARY, SHELF, (WIND,), ()):
            lines = [format_source(source) for source in library]
            self.assertEqual(format_library(library), lines)
            self.assertEqual(parse_library(lines), library)
        self.assertEqual(format_library((THREE, WAVES))[1], "smith al, brown ann, king bo; 2020; on waves")
        self.assertEqual([format_library(()), parse_library([])], [[], ()])

    def test_the_order_of_a_library_stays(self):
        for library in itertools.permutations(SHELF):
            self.assertEqual(parse_library(format_library(library)), library)

    def test_labels_of_small_libraries(self):
        for style, library in near.cases():
            for label in reading.labels(style, library):
                self.assertEqual(parse_label(format_label(label)), label)
            self.assertEqual(parse_library(format_library(library)), library)

    def test_all_steps(self):
        for steps in reading.all_steps():
            style = (3, 2, steps)
            self.assertEqual(parse_style(format_style(style)), style)

    def test_texts_are_different(self):
        labels = set([label for style, library in near.cases() for label in reading.labels(style, library)])
        self.assertEqual(len(set([format_label(label) for label in labels])), len(labels))

    def test_returned_lists_are_new(self):
        first, second = format_library(SHELF), format_library(SHELF)
        first.clear()
        self.assertEqual(len(second), 4)
        lines = format_library(SHELF)
        library = parse_library(lines)
        lines[0] = "x"
        self.assertEqual(library, SHELF)


class WrongTexts(unittest.TestCase):
    """InvalidText of [34] for texts that are none."""

    def check(self, read, texts):
        for text in texts:
            self.assertRaises(InvalidText, read, text)

    def test_labels(self):
        self.check(parse_label, [
            "", " ", "smith", "2020", " 2020", "smith ", "smith2020", "smith  2020", " smith 2020", "smith 2020 ",
            "smith 02020", "smith 00", "smith -1", "smith +1", "smith 1.0", "smith 1_0", "smith 2020 b", "smith 2020B",
            "smith 2020b1", "smith b2020", "smith, 2020", ", smith 2020", "smith,brown 2020", "smith , brown 2020",
            "smith,  brown 2020", "smith brown lee 2020", "smith j. 2020", "j.smith 2020", "jo. smith 2020",
            "J. smith 2020", ". smith 2020", "j. 2020", "Smith 2020", "smith et al 2020", "smith et. al. 2020",
            "smith et al.2020", "smith, et al. 2020", "et al. 2020", " et al. 2020", "smith et al. et al. 2020",
            "smith et al., brown 2020", "smith et  al. 2020", 'smith 2020"on tides"', 'smith 2020 "on tides',
            "smith 2020 on tides", "smith 2020 'on tides'", 'smith 2020 ""', 'smith 2020 " a"', 'smith 2020 "a "',
            'smith 2020 "a  b"', 'smith 2020 "a" "b"', 'smith 2020 "a""', 'smith 2020  "a"', 'smith 2020 "a" b',
            'smith 2020 "a"b', 'smith "a" 2020', 'smith 2020 "A"', 'smith 2020 "a1"', '"a"', "smith 2020 None",
            "a" * 13 + " 2020", "a" * 13 + " smith 2020", 'smith 2020 "' + "a" * 41 + '"', "smith 2020; a",
            "smith \u0662\u0660\u0662\u0660", "sm\u00efth 2020", "smith\u00a02020", "smith 2020\n", "smith\t2020",
        ])

    def test_sources(self):
        self.check(parse_source, [
            "", ";", "; ", "; ; ", "smith jo", "smith jo; 2020", "smith jo; 2020; ", "; 2020; a", "smith; 2020; a",
            "smith jo ann; 2020; a", "smith  jo; 2020; a", " smith jo; 2020; a", "smith jo ; 2020; a",
            "smith jo;2020; a", "smith jo; 2020;a", "smith jo;  2020; a", "smith jo; 2020 ; a", "smith jo; 2020;  a",
            "smith jo; 2020; a ", "smith jo; 2020; a  b", "smith jo; 02020; a", "smith jo; 00; a", "smith jo; -1; a",
            "smith jo; +1; a", "smith jo; 1e3; a", "smith jo; ; a", "smith jo; x; a", "smith jo; 2020b; a",
            "smith jo, ; 2020; a", ", smith jo; 2020; a", "smith jo,brown ann; 2020; a", "smith jo, brown; 2020; a",
            "smith jo,  brown ann; 2020; a", "smith jo; brown ann; 2020; a", "smith jo; 2020; a; b", "smith jo; 2020; A",
            "smith j.; 2020; a", "Smith jo; 2020; a", "smith jo; 2020; \"a\"", "smith jo; 2020; a.", "smith jo, 2020, a",
            "a" * 13 + " jo; 2020; a", "smith " + "a" * 13 + "; 2020; a", "smith jo; 2020; " + "a" * 41,
            "smith jo; \u0662; a", "smith j\u00f6; 2020; a", "smith jo; 2020; a\n", "smith jo; 2020; a\tb",
        ])

    def test_styles(self):
        self.check(parse_style, [
            "", "most", "most 2", "most 2, ", "most 2, kept", "most 2, kept ", "most , kept 1", "most 2 kept 1",
            "most 2,kept 1", "most 2,  kept 1", "most  2, kept 1", " most 2, kept 1", "most 2, kept 1 ", "most2, kept 1",
            "most 2, kept1", "kept 1, most 2", "most 2, most 1", "kept 2, kept 1", "2, 1", "most 2, kept 1:",
            "most 2, kept 1: ", "most 2, kept 1 : all", "most 2, kept 1:all", "most 2, kept 1:  all",
            "most 2, kept 1: all,", "most 2, kept 1: all, ", "most 2, kept 1: , all", "most 2, kept 1: all,title",
            "most 2, kept 1: all,  title", "most 2, kept 1: all title", "most 2, kept 1: all: title",
            "most 2, kept 1: All", "most 2, kept 1: name", "most 2, kept 1: firstinitial",
            "most 2, kept 1: first  initial", "most 2, kept 1: first, initial", "most 2, kept 1: all, all",
            "most 2, kept 1: title, all, title", "most 2, kept 1, all", "most 2, kept 1; all", "Most 2, kept 1",
            "most 02, kept 1", "most 2, kept 01", "most 2, kept 0", "most 0, kept 0", "most 0, kept 1", "most 2, kept 3",
            "most 2, kept -1", "most -2, kept 1", "most +2, kept 1", "most 2, kept +1", "most 2.0, kept 1",
            "most 1_0, kept 1", "most x, kept 1", "most 2, kept x", "most \u0662, kept 1", "most 2, kept 1\n",
            "most 9, kept 1" + "0" * 39, "most most 2, kept 1", "most 2, kept kept 1",
        ])

    def test_texts_of_another_kind(self):
        for k, (_, read, _) in enumerate(PAIRS):
            others = [text for at, (_, _, pairs) in enumerate(PAIRS) if at != k for _, text in pairs]
            self.check(read, others)

    def test_texts_that_differ_in_a_sign(self):
        kinds = (
            (parse_label, [text for _, text in LABELS[:10]], lambda text: LABEL_TEXT.fullmatch(text) is not None),
            (parse_source, [text for _, text in SOURCES[:4]], lambda text: SOURCE_TEXT.fullmatch(text) is not None),
            (parse_style, [text for _, text in STYLES[:4]], is_style_text),
        )
        for (read, texts, is_right), (write, _, _) in zip(kinds, PAIRS):
            right = 0
            for text in [spoiled for told in texts for spoiled in spoiled_texts(told)]:
                if is_right(text):
                    right += 1
                    self.assertEqual(write(read(text)), text)
                else:
                    self.assertRaises(InvalidText, read, text)
            self.assertGreater(right, 10)

    def test_libraries(self):
        lines = format_library(SHELF)
        for index, line in enumerate(lines):
            for text in ("", line + " ", line.upper(), line.replace("; ", ";", 1), None, 1, line.encode(), [line]):
                self.assertRaises(InvalidText, parse_library, lines[:index] + [text] + lines[index + 1:])
        self.assertRaises(InvalidText, parse_library, lines + lines[1:2])
        self.assertRaises(InvalidText, parse_library, lines[:1] * 2)
        for value in (tuple(lines), (), "\n".join(lines), lines[0], "", {lines[0]: 1}, set(lines), iter(lines), [lines]):
            self.assertRaises(InvalidText, parse_library, value)

    def test_long_texts(self):
        self.assertRaises(InvalidText, parse_label, "smith" * 800)
        self.assertRaises(InvalidText, parse_source, "; " * 2000)
        self.assertRaises(InvalidText, parse_style, "most 2, kept 1: " + "title, " * 500)
        self.assertEqual(format_label(parse_label("smith 2020" + "z" * 3990)), "smith 2020" + "z" * 3990)


class WrongArguments(unittest.TestCase):
    """The errors of [34]."""

    def test_values_of_any_other_kind(self):
        for value in [value for value in STRANGE if value != []] + [1, b"smith 2020", ["smith 2020"], ("smith 2020",)]:
            for read in (parse_label, parse_source, parse_style, parse_library):
                self.assertRaises(InvalidText, read, value)
        for read in (parse_label, parse_source, parse_style):
            self.assertRaises(InvalidText, read, [])

    def test_values_with_one_wrong_part(self):
        for value in list(STRANGE) + samples.spoiled_labels():
            self.assertRaises(InvalidLabel, format_label, value)
        for value in list(STRANGE) + samples.spoiled_sources():
            self.assertRaises(InvalidSource, format_source, value)
        for value in list(STRANGE) + samples.spoiled_styles():
            self.assertRaises(InvalidStyle, format_style, value)
        for value in list(STRANGE) + samples.spoiled_libraries():
            self.assertRaises(InvalidLibrary, format_library, value)

    def test_values_and_texts_are_not_the_same(self):
        self.assertRaises(InvalidLabel, format_label, "smith 2020")
        self.assertRaises(InvalidText, parse_label, ONE)
        self.assertRaises(InvalidText, parse_source, TIDES)
        self.assertRaises(InvalidText, parse_style, STYLE)
        self.assertRaises(InvalidText, parse_library, SHELF)
        self.assertRaises(InvalidText, parse_library, list(SHELF))

    def test_arguments_by_name(self):
        self.assertEqual(format_label(label=ONE), LABELS[0][1])
        self.assertEqual(parse_label(text=LABELS[0][1]), ONE)
        self.assertEqual(format_source(source=TIDES), SOURCES[0][1])
        self.assertEqual(parse_source(text=SOURCES[0][1]), TIDES)
        self.assertEqual(parse_style(text=format_style(style=STYLE)), STYLE)
        self.assertEqual(parse_library(lines=format_library(library=SHELF)), SHELF)


if __name__ == "__main__":
    unittest.main()
