"""Which rows are there by every filling, which by some, and fillings that show it."""

from gaprows.cells import check_top
from gaprows.fillings import HIGHEST_TOP, all_fillings, rows_by
from gaprows.looking import check_over_tables


def checked_fillings(sentence, tables, top):
    """All fillings of tables; what can't be is refused."""
    check_over_tables(sentence, tables)
    check_top(top, HIGHEST_TOP)
    return all_fillings(tables, top)


def counted(rows):
    """How often each of the rows is there."""
    counts = {}
    for row in rows:
        counts[row] = counts.get(row, 0) + 1
    return counts


def surely(sentence, tables, top):
    """The rows that are there by every filling, rising, each with the least times."""
    first, *others = checked_fillings(sentence, tables, top)
    least = counted(rows_by(sentence, tables, first))
    for filling in others:
        there = counted(rows_by(sentence, tables, filling))
        least = {row: min(many, there[row]) for row, many in least.items() if row in there}
    return sorted(least.items())


def may(sentence, tables, top):
    """The rows that are there by some filling, rising, each with the most times."""
    most = {}
    for filling in checked_fillings(sentence, tables, top):
        there = counted(rows_by(sentence, tables, filling))
        for row, many in there.items():
            most[row] = max(many, most.get(row, 0))
    return sorted(most.items())


def shown(sentence, tables, top, row, many):
    """The first filling by which a row is there so often or oftener, and the first by which it isn't."""
    there = None
    missing = None
    for filling in checked_fillings(sentence, tables, top):
        is_there = rows_by(sentence, tables, filling).count(row) >= many
        if is_there and there is None:
            there = sorted(filling.items())
        if not is_there and missing is None:
            missing = sorted(filling.items())
        if there is not None and missing is not None:
            break
    return there, missing
