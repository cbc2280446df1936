import unittest

from samples import NUMBERS, STRANGE
from sourcelabels.errors import InvalidLetters, InvalidNumber
from sourcelabels.letters import letters_of, number_of

# Small cases of [12], written out.
KNOWN = (
    (0, "a"), (1, "b"), (25, "z"), (26, "aa"), (27, "ab"), (51, "az"), (52, "ba"), (77, "bz"), (701, "zz"),
    (702, "aaa"), (703, "aab"), (727, "aaz"), (728, "aba"), (18277, "zzz"), (18278, "aaaa"),
)


def next_letters(letters):
    """The letters behind the given ones, by counting."""
    if letters == "":
        return "a"
    if letters[-1] == "z":
        return next_letters(letters[:-1]) + "a"
    return letters[:-1] + chr(ord(letters[-1]) + 1)


class Letters(unittest.TestCase):
    """[12], first sentence, and [14]."""

    def test_known_letters(self):
        for number, letters in KNOWN:
            self.assertEqual(letters_of(number), letters)
            self.assertEqual(number_of(letters), number)

    def test_counting_from_the_start(self):
        letters = ""
        for number in range(20000):
            letters = next_letters(letters)
            self.assertEqual(letters_of(number), letters)
            self.assertEqual(number_of(letters), number)

    def test_there_and_back_for_great_numbers(self):
        for number in NUMBERS:
            self.assertEqual(number_of(letters_of(number)), number)

    def test_there_and_back_for_many_letters(self):
        for letters in ("a" * 4000, "z" * 4000, "qz" * 2000):
            self.assertEqual(letters_of(number_of(letters)), letters)
        self.assertEqual(letters_of(number_of("z" * 4000) + 1), "a" * 4001)
        self.assertEqual(number_of("a" * 4001), number_of("z" * 4000) + 1)

    def test_kinds_of_the_answers(self):
        self.assertIs(type(letters_of(5)), str)
        self.assertIs(type(number_of("f")), int)

    def test_arguments_by_name(self):
        self.assertEqual(letters_of(number=26), "aa")
        self.assertEqual(number_of(letters="aa"), 26)

    def test_wrong_numbers(self):
        for value in STRANGE + ("", "a", "1", (), (0,), [0]):
            self.assertRaises(InvalidNumber, letters_of, value)

    def test_wrong_letters(self):
        wrong = ("", "A", "aB", "a b", " a", "a ", "a\n", "a1", "1", "a.", "\u00e4", "\u0430", 0, 26, (), ("a",))
        for value in STRANGE + wrong:
            self.assertRaises(InvalidLetters, number_of, value)


if __name__ == "__main__":
    unittest.main()
