"""What names, integers and the two kinds of columns are."""

LETTERS = "abcdefghijklmnopqrstuvwxyz"
LONGEST = 8
NUMBERS = "numbers"
WORDS = "words"


def is_name(value):
    """Return whether a value is a string of 1 to 8 lowercase letters."""
    if not isinstance(value, str) or not 1 <= len(value) <= LONGEST:
        return False
    return all([letter in LETTERS for letter in value])


def is_between(value, low, high):
    """Return whether a value is an integer within two bounds, both included."""
    if not isinstance(value, int) or isinstance(value, bool):
        return False
    return low <= value <= high


def is_kind(value):
    """Return whether a value is a kind of columns."""
    # Other objects could claim to be equal to a kind.
    return isinstance(value, str) and value in (NUMBERS, WORDS)
