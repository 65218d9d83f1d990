"""Fillings: a number for each gap that stands in tables, and what a sentence tells by one.

A filling is a dict of names and their numbers, in the order in which the gaps are met first.
"""

from gaprows.choices import how_many, one_of_each
from gaprows.errors import TooMany
from gaprows.running import rows_told

HIGHEST_TOP = 9
MOST_FILLINGS = 800


def names_met(tables):
    """The names of the gaps that stand in tables, in the order in which they are met first."""
    names = []
    for _, rows in tables:
        for row in rows:
            for cell in row:
                if not isinstance(cell, int) and cell[1] not in names:
                    names.append(cell[1])
    return names


def all_fillings(tables, top):
    """All fillings of tables, ascending as lists of their numbers; too many are refused."""
    names = names_met(tables)
    if how_many([top + 1] * len(names)) > MOST_FILLINGS:
        raise TooMany(f"more than {MOST_FILLINGS} fillings")
    numbers = list(range(top + 1))
    return [dict(zip(names, chosen)) for chosen in one_of_each([numbers] * len(names))]


def filled_row(row, filling):
    """A row with a number in the place of each gap."""
    return tuple([cell if isinstance(cell, int) else filling[cell[1]] for cell in row])


def rows_by(sentence, tables, filling):
    """The rows that a sentence tells by a filling."""
    filled = [(wide, [filled_row(row, filling) for row in rows]) for wide, rows in tables]
    # Where no gap stands, no truth is unknown: all rows told are sure.
    return [row for row, _ in rows_told(sentence, filled)]
