"""What names, integers, indices and the two kinds of columns are."""

LETTERS = "abcdefghijklmnopqrstuvwxyz"
LONGEST = 8
NUMBERS = "numbers"
WORDS = "words"


def is_name(value):
    """Return whether a value is a string of 1 to 8 lowercase letters."""
    if not isinstance(value, str) or not 1 <= len(value) <= LONGEST:
        return False
    return all([letter in LETTERS for letter in value])


def is_integer(value):
    """Return whether a value is an integer, which True and False are not."""
    return isinstance(value, int) and not isinstance(value, bool)


def is_between(value, low, high):
    """Return whether a value is an integer within two bounds, both included."""
    return is_integer(value) and low <= value <= high


def are_indices(value, many):
    """Return whether a value is a tuple of different indices of so many items, ascending."""
    if not isinstance(value, tuple) or not all([is_between(at, 0, many - 1) for at in value]):
        return False
    return all([value[at] < value[at + 1] for at in range(len(value) - 1)])


def is_kind(value):
    """Return whether a value is a kind of columns."""
    # Other objects could claim to be equal to a kind.
    return isinstance(value, str) and value in (NUMBERS, WORDS)
