"""Equations with ratios: rows times values, and the values that make right sides."""

from rivalprices.errors import Singular
from rivalprices.ratio import ZERO, add, less, over, sign, sub, times


def along(row, values):
    """The sum of a row's ratios times the values."""
    total = ZERO
    for part, value in zip(row, values):
        total = add(total, times(part, value))
    return total


def product(rows, values):
    """For each row the sum of its ratios times the values."""
    return [along(row, values) for row in rows]


def _size(value):
    return (abs(value[0]), value[1])


def _leads(row, at):
    """Whether the ratio at a place is greater in size than all others of the row together."""
    others = ZERO
    for place, value in enumerate(row):
        if place != at:
            others = add(others, _size(value))
    return less(others, _size(row[at]))


def is_dominant(rows):
    """Whether the rows are dominant."""
    return all([_leads(row, at) for at, row in enumerate(rows)])


def _lead_place(table, at):
    """The place, from `at` on, of the first row that has a value in this column."""
    for place in range(at, len(table)):
        if sign(table[place][at]) != 0:
            return place
    raise Singular("the equations have not just one solution")


def _scaled(row, part):
    return [over(value, part) for value in row]


def _cleared(row, lead, at):
    """The row without its value in the column in which the lead has 1."""
    part = row[at]
    return [sub(value, times(part, step)) for value, step in zip(row, lead)]


def solve(rows, right):
    """The one solution of equations, a ratio for each column."""
    table = [[*row, value] for row, value in zip(rows, right)]
    for at in range(len(rows)):
        place = _lead_place(table, at)
        lead = _scaled(table[place], table[place][at])
        others = table[:place] + table[place + 1:]
        rest = [_cleared(row, lead, at) for row in others]
        # The rows ahead of this place have led a column already and must stay where they are.
        table = [*rest[:at], lead, *rest[at:]]
    return [row[-1] for row in table]
