"""Rows of integers whose sums are one unit, as experiments and garblings have them."""

from math import gcd

from everydecider.checks import are_amounts, is_integer
from everydecider.errors import BadRow, BadUnit


def check_unit(unit):
    """Refuse what is no unit."""
    if not is_integer(unit) or unit < 1:
        raise BadUnit(unit)


def check_rows(unit, rows):
    """Refuse rows of different lengths, and those that do not add up to the unit."""
    for index, row in enumerate(rows):
        # A row without items needs no test of its own: its sum is not the unit.
        if not are_amounts(row) or len(row) != len(rows[0]) or sum(row) != unit:
            raise BadRow(index)


def lowest_rows(unit, rows):
    """The unit and the rows, as tuples, divided by their greatest common divisor."""
    divisor = unit
    for row in rows:
        for number in row:
            divisor = gcd(divisor, number)
    kept = [tuple([number // divisor for number in row]) for row in rows]
    return (unit // divisor, tuple(kept))


def multiplied(one, other):
    """The rows of one garbling, or of an experiment, followed by another garbling."""
    return [[sum([number * row[at] for number, row in zip(line, other)]) for at in range(len(other[0]))]
            for line in one]


def turned(rows):
    """The columns of rows, or the rows of columns."""
    return [list(column) for column in zip(*rows)]


def unit_rows(size):
    """Rows with a 1 at the place of the row and 0 at the others."""
    return [[int(place == at) for place in range(size)] for at in range(size)]
