"""Ratios: exact numbers as tuples (top, bottom) in lowest terms."""

from math import gcd, lcm

from everydecider.decimals import integer_text, read_integer
from everydecider.errors import BadRatio, BadText

_LONGEST_TEXT = 60


def ratio(top, bottom=1):
    """The ratio with the value top / bottom."""
    if bottom == 0:
        raise BadRatio(bottom)
    divisor = gcd(top, bottom)
    # A bottom is never negative: its sign goes to the top.
    if bottom < 0:
        divisor = -divisor
    return (top // divisor, bottom // divisor)


def plus(one, other):
    """The sum of two ratios."""
    top, bottom = one
    other_top, other_bottom = other
    return ratio(top * other_bottom + other_top * bottom, bottom * other_bottom)


def minus(one, other):
    """The difference of two ratios."""
    top, bottom = one
    other_top, other_bottom = other
    return ratio(top * other_bottom - other_top * bottom, bottom * other_bottom)


def times(one, other):
    """The product of two ratios."""
    top, bottom = one
    other_top, other_bottom = other
    return ratio(top * other_top, bottom * other_bottom)


def over(one, other):
    """The quotient of two ratios."""
    top, bottom = one
    other_top, other_bottom = other
    return ratio(top * other_bottom, bottom * other_top)


def compare(one, other):
    """-1, 0 or 1: whether the first ratio is less, equal or greater."""
    difference, _ = minus(one, other)
    if difference < 0:
        return -1
    if difference > 0:
        return 1
    return 0


def total(ratios):
    """The sum of a list of ratios."""
    answer = (0, 1)
    for one in ratios:
        answer = plus(answer, one)
    return answer


def common(ratios):
    """The least common unit of a list of ratios, and their tops over it."""
    unit = 1
    for _, bottom in ratios:
        unit = lcm(unit, bottom)
    return (unit, [top * (unit // bottom) for top, bottom in ratios])


def ascending(ratios):
    """The different ratios of a list, the least one first."""
    unit, tops = common(ratios)
    return [ratio(top, unit) for top in sorted(set(tops))]


def lowest(numbers):
    """The integers of a list divided by their greatest common divisor."""
    divisor = 0
    for number in numbers:
        divisor = gcd(divisor, number)
    if divisor == 0:
        return list(numbers)
    return [number // divisor for number in numbers]


def ratio_text(one):
    """The text of a ratio."""
    top, bottom = one
    if bottom == 1:
        return integer_text(top)
    return f"{integer_text(top)}/{integer_text(bottom)}"


def read_ratio(text):
    """The ratio with a text."""
    if len(text) > _LONGEST_TEXT:
        raise BadText()
    head, slash, tail = text.partition("/")
    top = read_integer(head)
    bottom = read_integer(tail) if slash == "/" else 1
    if top is None or bottom is None or bottom < 1:
        raise BadText()
    answer = ratio(top, bottom)
    # What is not in lowest terms, or has the bottom 1, is written otherwise.
    if ratio_text(answer) != text:
        raise BadText()
    return answer
