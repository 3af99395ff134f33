"""Measures of cells, parts that give them a direction, and keys made of parts."""

from sortreason.checks import LETTERS, LONGEST, NUMBERS, WORDS, is_between, is_name
from sortreason.errors import BadKey, BadMeasure

MOST_PARTS = 6
# The words with which a text names measures that are not the cell itself.
SIZE = "size"
REST = "rest"
ENDING = "ending"


class Measure:
    """What computes an integer or a word from a cell of a column."""

    def __init__(self, name):
        if not is_name(name):
            raise BadMeasure("the name is not 1 to 8 lowercase letters")
        self._name = name

    def __eq__(self, other):
        return type(self) is type(other) and self._name == other._name

    @property
    def name(self):
        """The name of the column."""
        return self._name

    def of(self, cell):
        """Return the measure of a cell."""
        raise NotImplementedError("each class of measures has its own")

    def fits(self, kind):
        """Return whether the measure is possible for a column of this kind."""
        return False

    def words(self):
        """Return the words that name the measure in a text."""
        raise NotImplementedError("each class of measures has its own")


class Plain(Measure):
    """The cell itself."""

    def of(self, cell):
        """Return the cell."""
        return cell

    def fits(self, kind):
        """Return True: every cell is a measure."""
        return True

    def words(self):
        """Return the name alone."""
        return [self._name]


class Size(Measure):
    """The absolute value of a number, or the number of letters of a word."""

    def of(self, cell):
        """Return how large the cell is."""
        return len(cell) if isinstance(cell, str) else abs(cell)

    def fits(self, kind):
        """Return True: every cell has a size."""
        return True

    def words(self):
        """Return what is measured and the name."""
        return [SIZE, self._name]


class Rest(Measure):
    """The remainder of a number after division."""

    def __init__(self, name, divisor):
        super().__init__(name)
        if not is_between(divisor, 2, 9):
            raise BadMeasure("the divisor is not an integer from 2 to 9")
        self._divisor = divisor

    def __eq__(self, other):
        return isinstance(other, Rest) and self._name == other._name and self._divisor == other._divisor

    def of(self, cell):
        """Return the remainder, which is never negative."""
        return cell % self._divisor

    def fits(self, kind):
        """Return whether the cells are numbers."""
        return kind == NUMBERS

    def words(self):
        """Return what is measured, the name and the divisor."""
        return [REST, self._name, str(self._divisor)]


class Ending(Measure):
    """The last letter of a word."""

    def of(self, cell):
        """Return the last letter."""
        return cell[-1]

    def fits(self, kind):
        """Return whether the cells are words."""
        return kind == WORDS

    def words(self):
        """Return what is measured and the name."""
        return [ENDING, self._name]


class Part:
    """A measure with a direction, up or down."""

    def __init__(self, measure, *, down=False):
        if not isinstance(measure, Measure):
            raise BadMeasure("a part is made of a Measure")
        if not isinstance(down, bool):
            raise BadMeasure("the direction is not a boolean")
        self._measure = measure
        self._down = down

    def __eq__(self, other):
        return isinstance(other, Part) and self._measure == other._measure and self._down == other._down

    def __neg__(self):
        return Part(self._measure, down=not self._down)

    @classmethod
    def up(cls, name):
        """Return the part of a column itself, upwards."""
        return cls(Plain(name))

    @classmethod
    def downward(cls, name):
        """Return the part of a column itself, downwards."""
        return cls(Plain(name), down=True)

    @property
    def measure(self):
        """The measure."""
        return self._measure

    @property
    def down(self):
        """Whether the direction is down."""
        return self._down

    def rank(self, cell):
        """Return an integer that is smaller the earlier the cell comes in the direction of the part."""
        number = _as_number(self._measure.of(cell))
        return -number if self._down else number


class Key:
    """A list of parts, of which the first one that does not tie two rows decides."""

    def __init__(self, *parts):
        if not all([isinstance(part, Part) for part in parts]):
            raise BadKey("a key is made of Parts")
        if len(parts) > MOST_PARTS:
            raise BadKey("a key has at most 6 parts")
        self._parts = parts

    def __eq__(self, other):
        return isinstance(other, Key) and self._parts == other._parts

    def __len__(self):
        return len(self._parts)

    def __add__(self, other):
        if not isinstance(other, Key):
            raise BadKey("only a Key is added to a key")
        parts = self._parts + other._parts
        return Key(*parts)

    def __neg__(self):
        parts = [-part for part in self._parts]
        return Key(*parts)

    def __contains__(self, x):
        return x in self._parts

    def __getitem__(self, at):
        if not is_between(at, 0, len(self._parts) - 1):
            raise BadKey("not the index of a part")
        return self._parts[at]

    def __iter__(self):
        raise TypeError("a key is not iterated over, its parts are")

    @property
    def parts(self):
        """The parts, in a new list."""
        return list(self._parts)


def _as_number(measure):
    """Return an integer that stands among others as the measure stands among measures."""
    if isinstance(measure, int):
        return measure
    number = 0
    for at in range(LONGEST):
        # A missing letter counts as 0, so that a word comes before those that begin with it.
        digit = 1 + LETTERS.index(measure[at]) if at < len(measure) else 0
        number = number * (1 + len(LETTERS)) + digit
    return number
