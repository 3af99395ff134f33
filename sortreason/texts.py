"""Texts of tables and keys, written and read."""

from sortreason.checks import is_kind, is_name
from sortreason.errors import BadKey, BadMeasure, BadTable, BadText
from sortreason.keys import ENDING, REST, SIZE, Ending, Key, Part, Plain, Rest, Size
from sortreason.tables import Table, check_table

COLUMNS = "columns"
ROW = "row"
UP = "up"
DOWN = "down"
DIGITS = "0123456789"


def table_text(table):
    """Return the text of a table."""
    check_table(table)
    heading = [COLUMNS] + [word for column in table.columns.items() for word in column]
    rows = [[ROW] + [str(cell) for cell in row] for row in table.rows]
    return "".join([" ".join(words) + "\n" for words in [heading] + rows])


def key_text(key):
    """Return the text of a key."""
    if not isinstance(key, Key):
        raise BadKey("not a Key")
    return ", ".join([_part_text(part) for part in key.parts])


def read_table(text):
    """Return the table that a text is of."""
    if not isinstance(text, str):
        raise BadText("not a string")
    pieces = text.split("\n")
    lines = [piece.split(" ") for piece in pieces[:-1]]
    for at, words in enumerate(lines):
        if not _is_accepted(at, words):
            raise BadText("the line has no form that is accepted here", at)
    if not lines or pieces[-1]:
        raise BadText("there is no line, or characters follow the last one", len(lines))
    return _table_of(lines)


def read_key(text):
    """Return the key that a text is of."""
    if not isinstance(text, str):
        raise BadText("not a string")
    pieces = text.split(", ") if text else []
    try:
        parts = [_read_part(piece.split(" ")) for piece in pieces]
        return Key(*parts)
    except (BadMeasure, BadKey):
        raise BadText("the parts form no key") from None


def _part_text(part):
    """Return the text of a part."""
    return " ".join(part.measure.words() + [DOWN if part.down else UP])


def _is_accepted(at, words):
    """Return whether a line of these words is accepted at an index."""
    first, *others = words
    if at == 0:
        return first == COLUMNS and _are_columns(others)
    return first == ROW and _are_cells(others)


def _are_columns(words):
    """Return whether words are one or more names, each with a kind behind it."""
    names, kinds = words[::2], words[1::2]
    if not names or len(names) != len(kinds):
        return False
    return all([is_name(name) and is_kind(kind) for name, kind in zip(names, kinds)])


def _are_cells(words):
    """Return whether words are one or more numbers and words of tables."""
    return len(words) > 0 and all([_is_number(word) or is_name(word) for word in words])


def _is_number(word):
    """Return whether a word is a number as a text has it."""
    digits = word[1:] if word.startswith("-") else word
    if not 1 <= len(digits) <= 2 or not all([digit in DIGITS for digit in digits]):
        return False
    return digits[0] != "0" or word == "0"


def _table_of(lines):
    """Return the table of the words of accepted lines."""
    names, kinds = lines[0][1::2], lines[0][2::2]
    columns = dict(zip(names, kinds))
    if len(columns) < len(names):
        raise BadText("a name occurs twice")
    rows = [tuple([_cell(word) for word in words[1:]]) for words in lines[1:]]
    try:
        return Table(columns, rows)
    except BadTable:
        raise BadText("the lines form no table") from None


def _cell(word):
    """Return the cell that an accepted word is."""
    return int(word) if _is_number(word) else word


def _read_part(words):
    """Return the part that words are of."""
    if words[-1] not in (UP, DOWN):
        raise BadText("a part ends with its direction")
    return Part(_read_measure(words[:-1]), down=words[-1] == DOWN)


def _read_measure(words):
    """Return the measure that words are of."""
    # The number of words tells the forms apart, as a column may be called like a measure.
    if len(words) == 1:
        return Plain(words[0])
    if len(words) == 2 and words[0] == SIZE:
        return Size(words[1])
    if len(words) == 2 and words[0] == ENDING:
        return Ending(words[1])
    if len(words) == 3 and words[0] == REST and _is_number(words[2]):
        return Rest(words[1], int(words[2]))
    raise BadText("no measure has this form")
