"""Plain values that several parts of the package ask about."""

ALPHABET = "abcdefghijklmnopqrstuvwxyz"


def is_integer_from(value, least):
    """Whether any value is an integer from least on."""
    # A bool is an int for Python, but no integer for the package.
    return isinstance(value, int) and not isinstance(value, bool) and value >= least


def is_letters(value):
    """Whether any value is a string of letters from a to z, perhaps an empty one."""
    # Not isalpha or islower: they also take letters beyond a to z.
    return isinstance(value, str) and all(["a" <= sign <= "z" for sign in value])
