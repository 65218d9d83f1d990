"""What a sentence tells over tables, and a condition over a row, by three truths."""

from gaprows.cells import check_row
from gaprows.looking import check_condition, check_over_tables
from gaprows.truths import of_both, of_either, opposite, same, same_cells, truth_of


def not_false(rows):
    """Of rows with their truths those that aren't False."""
    return [(row, truth) for row, truth in rows if truth is not False]


def kept(rows, condition):
    """What a keep tells."""
    return not_false([(row, of_both(truth, truth_of(condition, row))) for row, truth in rows])


def picked(rows, columns):
    """What a pick tells."""
    return [(tuple([row[column] for column in columns]), truth) for row, truth in rows]


def pairs_hold(one, other, pairs):
    """The truth of all pairs of columns, of two rows, being the same."""
    truth = True
    for left, right in pairs:
        truth = of_both(truth, same(one[left], other[right]))
    return truth


def joined(ones, others, pairs):
    """What a join tells."""
    sides = []
    for one, one_truth in ones:
        for other, other_truth in others:
            truth = of_both(of_both(one_truth, other_truth), pairs_hold(one, other, pairs))
            if truth is not False:
                sides.append((one + other, truth))
    return sides


def is_among(row, others):
    """The truth of a row being the same as any of the others."""
    truth = False
    for other, other_truth in others:
        truth = of_either(truth, of_both(other_truth, same_cells(row, other)))
    return truth


def left_without(ones, others):
    """What a without tells."""
    return not_false([(row, of_both(truth, opposite(is_among(row, others)))) for row, truth in ones])


def rows_told(sentence, tables):
    """The rows that a sentence tells, each with its truth; nothing is looked over."""
    word = sentence[0]
    if word == "rows":
        return [(row, True) for row in tables[sentence[1]][1]]
    one = rows_told(sentence[1], tables)
    if word == "keep":
        return kept(one, sentence[2])
    if word == "pick":
        return picked(one, sentence[2])
    other = rows_told(sentence[2], tables)
    if word == "join":
        return joined(one, other, sentence[3])
    if word == "both":
        return one + other
    return left_without(one, other)


def run(sentence, tables):
    """The rows that a sentence tells over tables, each with "sure" or "maybe"."""
    check_over_tables(sentence, tables)
    return [(row, "sure" if truth else "maybe") for row, truth in rows_told(sentence, tables)]


def three(condition, row):
    """The truth of a condition over a row: True, False, or None where it isn't known."""
    check_row(row)
    check_condition(condition, len(row))
    return truth_of(condition, row)
