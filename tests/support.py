"""What the test files share."""

import unittest

from sortreason import errors
from sortreason.keys import Ending, Key, Part, Plain, Rest, Size


class Equal:
    """Claims to be equal to everything."""

    def __eq__(self, other):
        return True

    def __hash__(self):
        return 1


class Hostile:
    """Fails whatever is asked of it."""

    def _fail(self, *rest):
        raise RuntimeError("an argument was asked too much")

    __eq__ = __lt__ = __len__ = __iter__ = __bool__ = __getitem__ = __contains__ = _fail
    __hash__ = object.__hash__


def strange_values():
    """Values that are no integer, no string, no list, no tuple, no dict and nothing of the package."""
    return [None, True, False, b"ab", {"a"}, frozenset(), object(), range(3), 1j, iter([]), len, int,
            Equal(), Hostile(), ValueError("a"), NotImplemented, ...]


def wrong_keys():
    """Values that are no key for a table with the columns `year`, of numbers, and `title`, of words."""
    good = Part.up("year")
    impossible = [Part.up("month"), Part(Rest("title", 2)), Part(Ending("year")), Part(Size("yea"))]
    keys = [Key(part) for part in impossible] + [Key(good, part) for part in impossible]
    keys += [Key(*[good] * 5, impossible[0]), good, Plain("year"), "year", "", 1, [], [good], (), {}, Key]
    return keys + strange_values()


class RefusalCase(unittest.TestCase):
    """A test case that knows how the package refuses a call."""

    def refused(self, error, call, *args, **named):
        """Check that a call raises just this error, and return the error."""
        with self.assertRaises(errors.SortError) as caught:
            call(*args, **named)
        self.assertIs(type(caught.exception), error)
        self.assertIsInstance(caught.exception, ValueError)
        return caught.exception


def measured(part, columns, row):
    """The measure of a row, worked out apart from the program."""
    cell = dict(zip(columns, row))[part.measure.name]
    if isinstance(part.measure, Size):
        return len(cell) if isinstance(cell, str) else max(cell, -cell)
    if isinstance(part.measure, Ending):
        return cell[len(cell) - 1]
    if isinstance(part.measure, Rest):
        divisor = [each for each in range(2, 10) if part.measure == Rest(part.measure.name, each)][0]
        return [rest for rest in range(divisor) if (cell - rest) % divisor == 0][0]
    return cell


def order(columns, one, other, parts):
    """What `compared` must return, worked out from the words of point [4]."""
    for part in parts:
        first, second = measured(part, columns, one), measured(part, columns, other)
        if first != second:
            in_order = first > second if part.down else first < second
            return -1 if in_order else 1
    return 0


def effect(columns, rows, parts):
    """What parts do to each pair of neighbours."""
    return [order(columns, rows[at], rows[at + 1], parts) for at in range(len(rows) - 1)]


def candidates_of(columns):
    """The candidates, worked out from the words of point [5]."""
    found = []
    for name, kind in columns.items():
        numbers = [Plain(name), Size(name), Rest(name, 2), Rest(name, 3)]
        words = [Plain(name), Size(name), Ending(name)]
        for measure in numbers if kind == "numbers" else words:
            found += [Part(measure), Part(measure, down=True)]
    return found


class Dice:
    """Numbers that look random and are the same in each run."""

    def __init__(self, seed):
        self.state = seed

    def below(self, bound):
        self.state = (self.state * 6364136223846793005 + 1442695040888963407) % 2 ** 64
        return (self.state >> 33) % bound

    def choice(self, values):
        return values[self.below(len(values))]

    def word(self, letters, longest):
        return "".join(self.choice(letters) for _ in range(1 + self.below(longest)))

    def columns(self, most=3):
        return {name: self.choice(["numbers", "words"]) for name in ["a", "b", "c"][:1 + self.below(most)]}

    def row(self, columns):
        """A row with few different cells, so that ties are common."""
        return tuple(self.below(9) - 4 if kind == "numbers" else self.word("ab", 2) for kind in columns.values())

    def rows(self, columns, fewest=2, most=8):
        return [self.row(columns) for _ in range(fewest + self.below(most - fewest + 1))]

    def key(self, columns, most=6):
        return Key(*[self.choice(candidates_of(columns)) for _ in range(self.below(most + 1))])
