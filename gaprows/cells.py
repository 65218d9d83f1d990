"""Cells, rows and tables: which there are, and what of them is refused."""

from gaprows.errors import BadTables, BadTop

HIGHEST_NUMBER = 99
HIGHEST_NAME = 9
MOST_TABLES = 3
MOST_WIDE = 4
MOST_ROWS = 6
MOST_CELLS = 8


def is_number(value):
    """Whether a value is a whole number; True and False are none."""
    return isinstance(value, int) and not isinstance(value, bool)


def is_within(value, least, most):
    """Whether a value is a number from the least to the most."""
    return is_number(value) and least <= value <= most


def is_gap(value):
    """Whether a value is a gap."""
    if not isinstance(value, tuple) or len(value) != 2:
        return False
    word, name = value
    return word == "gap" and is_within(name, 0, HIGHEST_NAME)


def is_cell(value):
    """Whether a value is a cell."""
    return is_within(value, 0, HIGHEST_NUMBER) or is_gap(value)


def is_row(value, wide):
    """Whether a value is a row of so many cells."""
    return isinstance(value, tuple) and len(value) == wide and all(is_cell(cell) for cell in value)


def check_top(top, highest):
    """Refuse what is no number from 0 to the highest."""
    if not is_within(top, 0, highest):
        raise BadTop(f"no number from 0 to {highest}")


def check_row(row):
    """Refuse what is no row of one to eight cells."""
    if not isinstance(row, tuple) or not 1 <= len(row) <= MOST_CELLS or not is_row(row, len(row)):
        raise BadTables(0, 0)


def check_table(table, at):
    """Refuse what is no table; it is the one numbered so."""
    if not isinstance(table, tuple) or len(table) != 2:
        raise BadTables(at, -1)
    wide, rows = table
    if not is_within(wide, 1, MOST_WIDE) or not isinstance(rows, list) or len(rows) > MOST_ROWS:
        raise BadTables(at, -1)
    for place, row in enumerate(rows):
        if not is_row(row, wide):
            raise BadTables(at, place)


def check_tables(tables):
    """Refuse what are no tables."""
    if not isinstance(tables, list) or not 1 <= len(tables) <= MOST_TABLES:
        raise BadTables(-1, -1)
    for at, table in enumerate(tables):
        check_table(table, at)


def widths_of(tables):
    """How wide each of the tables is."""
    return [wide for wide, _ in tables]
