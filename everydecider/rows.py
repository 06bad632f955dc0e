"""Rows of integers whose sums are one unit, as experiments have them."""

from math import gcd

from everydecider.checks import are_amounts, is_integer
from everydecider.errors import BadRow, BadUnit


def check_unit(unit):
    """Refuse what is no unit."""
    if not is_integer(unit) or unit < 1:
        raise BadUnit(unit)


def check_rows(unit, rows):
    """Refuse rows of different lengths, and those that do not add up to the unit."""
    for index, row in enumerate(rows):
        # A row without items needs no test of its own: its sum is not the unit.
        if not are_amounts(row) or len(row) != len(rows[0]) or sum(row) != unit:
            raise BadRow(index)


def lowest_rows(unit, rows):
    """The unit and the rows, as tuples, divided by their greatest common divisor."""
    divisor = unit
    for row in rows:
        for number in row:
            divisor = gcd(divisor, number)
    kept = [tuple([number // divisor for number in row]) for row in rows]
    return (unit // divisor, tuple(kept))
