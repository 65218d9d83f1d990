"""Sums of a column's numbers by the numbers of a key column: over all fillings, and without any."""

from gaprows.cells import check_top, is_within
from gaprows.errors import BadColumn
from gaprows.fillings import HIGHEST_TOP, all_fillings, rows_by
from gaprows.looking import check_over_tables
from gaprows.running import rows_told


def check_asked(sentence, tables, top, columns):
    """Refuse what can't be; columns ahead of the greatest number."""
    wide = check_over_tables(sentence, tables)
    for column in columns:
        if not is_within(column, 0, wide - 1):
            raise BadColumn(f"no column from 0 to {wide - 1}")
    check_top(top, HIGHEST_TOP)


def sums_of(rows, key, column):
    """The sum of the column's numbers for each number in the key column."""
    sums = {}
    for row in rows:
        sums[row[key]] = sums.get(row[key], 0) + row[column]
    return sums


def totals(sentence, tables, top, key, column):
    """The least and the greatest sum of a column for each key, by all fillings, rising by keys."""
    check_asked(sentence, tables, top, (key, column))
    by_fillings = []
    for filling in all_fillings(tables, top):
        by_fillings.append(sums_of(rows_by(sentence, tables, filling), key, column))
    told = []
    for number in sorted({found for sums in by_fillings for found in sums}):
        all_sums = [sums.get(number, 0) for sums in by_fillings]
        told.append((number, min(all_sums), max(all_sums)))
    return told


def numbers_of(cell, top):
    """The numbers that a cell may be, rising."""
    if isinstance(cell, int):
        return [cell]
    return list(range(top + 1))


def spans(sentence, tables, top, key, column):
    """Bounds of the sum of a column for each key that may be, without fillings, rising by keys."""
    check_asked(sentence, tables, top, (key, column))
    lows = {}
    highs = {}
    for row, truth in rows_told(sentence, tables):
        keys = numbers_of(row[key], top)
        worths = numbers_of(row[column], top)
        is_sure = truth is True and len(keys) == 1
        for number in keys:
            lows[number] = lows.get(number, 0) + (worths[0] if is_sure else 0)
            highs[number] = highs.get(number, 0) + worths[-1]
    return [(number, lows[number], highs[number]) for number in sorted(highs)]
