"""The letters that tell apart labels that are equal otherwise, and their numbers."""

from sourcelabels.basics import ALPHABET, is_integer_from, is_letters
from sourcelabels.errors import InvalidLetters, InvalidNumber


def letters_of(number):
    """The letters with a number: a for 0, z for 25, aa for 26 and so on."""
    if not is_integer_from(number, 0):
        raise InvalidNumber()
    letters = ""
    # There is no letter for zero: aa comes behind z, so each place counts from 1.
    left = number + 1
    while left > 0:
        left, place = divmod(left - 1, len(ALPHABET))
        letters = ALPHABET[place] + letters
    return letters


def number_of(letters):
    """The number of the letters."""
    if not is_letters(letters) or letters == "":
        raise InvalidLetters()
    count = 0
    for letter in letters:
        count = count * len(ALPHABET) + ALPHABET.index(letter) + 1
    return count - 1
