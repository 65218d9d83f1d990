"""Whether two conditions, or two sentences, tell the same: the first row, or tables, of which they don't."""

from gaprows.cells import check_top
from gaprows.choices import how_many, one_of_each
from gaprows.errors import TooMany
from gaprows.looking import check_condition, check_sentence
from gaprows.running import rows_told
from gaprows.truths import truth_of

HIGHEST_TOP = 3
MOST_ROWS_EACH = 2
MOST_LISTS = 2000


def cells_to(top):
    """The cells to go through, in order."""
    return [("gap", 0), ("gap", 1)] + list(range(top + 1))


def parted(one, other, wide, top):
    """The first row of which the truths of two conditions are unlike; None for none."""
    check_condition(one, wide)
    check_condition(other, wide)
    check_top(top, HIGHEST_TOP)
    for row in one_of_each([cells_to(top)] * wide):
        if truth_of(one, row) != truth_of(other, row):
            return row
    return None


def how_many_tables(wide, cells, most):
    """How many tables of so many columns, and at most so many rows, there are."""
    rows = how_many([len(cells)] * wide)
    return sum([how_many([rows] * many) for many in range(most + 1)])


def tables_of(wide, cells, most):
    """All tables of so many columns, and at most so many rows, in order."""
    rows = one_of_each([cells] * wide)
    tables = []
    for many in range(most + 1):
        tables.extend([(wide, chosen) for chosen in one_of_each([rows] * many)])
    return tables


def parted_by(one, other, widths, top, most):
    """The first tables of which two sentences tell unlike rows or truths; None for none."""
    check_sentence(one, widths)
    check_sentence(other, widths)
    check_top(top, HIGHEST_TOP)
    check_top(most, MOST_ROWS_EACH)
    cells = cells_to(top)
    # Counted ahead of going through: what is too many might not fit into memory.
    if how_many([how_many_tables(wide, cells, most) for wide in widths]) > MOST_LISTS:
        raise TooMany(f"more than {MOST_LISTS} lists of tables")
    for tables in one_of_each([tables_of(wide, cells, most) for wide in widths]):
        if rows_told(one, tables) != rows_told(other, tables):
            return [(wide, list(rows)) for wide, rows in tables]
    return None
