"""Values that the tests of several files have in common."""

from fractions import Fraction
from math import lcm

from everydecider.experiments import Experiment
from everydecider.garblings import Garbling

NO_INTEGERS = [True, False, None, "1", "", b"1", [1], (1,), {}]
BIG = 123456789012345678901234567890
# Rows for the unit 4 with the index of the first one that is wrong (point [21]).
BAD_ROWS = [
    (0, [[]]),
    (0, [[], []]),
    (0, [[], [4]]),
    (1, [[4], []]),
    (1, [[3, 1], [4]]),
    (1, [[4], [3, 1]]),
    (2, [[3, 1], [1, 3], [2, 1, 1]]),
    (0, [[5, -1]]),
    (1, [[3, 1], [-1, 5]]),
    (0, [[3, 2], [3, 1]]),
    (0, [[3, 0], [3, 1]]),
    (1, [[3, 1], [3, 0]]),
    (3, [[4], [4], [4], [5]]),
    (1, [[3, 1], [1, 4], [1, 5]]),
    (0, [[0, 0], [3, 1]]),
]


def as_ratio(fraction):
    return (fraction.numerator, fraction.denominator)


def parts(rng, unit, count, zeros=0.3):
    """So many integers of at least 0 whose sum is a unit, some of them 0."""
    weights = [Fraction(0 if rng.random() < zeros else rng.random()) for _ in range(count)]
    whole = sum(weights)
    numbers = [int(weight / whole * unit) if whole else 0 for weight in weights]
    numbers[rng.randrange(count)] += unit - sum(numbers)
    return numbers


def some_experiment(rng, states, signals, zeros=0.3):
    unit = rng.choice([1, 2, 3, 6, 10, 12, 97, 1000])
    return Experiment(unit, [parts(rng, unit, signals, zeros) for _ in range(states)])


def some_garbling(rng, before, after, zeros=0.3):
    unit = rng.choice([1, 2, 5, 12])
    return Garbling(unit, [parts(rng, unit, after, zeros) for _ in range(before)])


def in_tuples(value):
    """A list with tuples in the place of all lists."""
    return tuple([in_tuples(item) for item in value]) if isinstance(value, list) else value


def all_lists(value):
    """The kinds of a nested list: list, list of lists and so on, all the way down."""
    return [all_lists(item) for item in value] if type(value) is list else type(value)


def shares(thing):
    """The probabilities of an experiment or a garbling, a list for each row."""
    return [[Fraction(number, thing.unit) for number in row] for row in thing.rows()]


def turned(rows):
    return [list(row) for row in zip(*rows)]


def expect_shares(case, thing, rows):
    """Check an experiment or a garbling in every respect against one that is made anew of its probabilities."""
    unit = lcm(*[number.denominator for row in rows for number in row])
    made = thing.__class__(unit, [[int(number * unit) for number in row] for row in rows])
    case.assertEqual(vars(thing), vars(made))
    case.assertEqual([thing.unit, shares(thing), thing == made], [unit, rows, True])
    case.assertEqual(all_lists(thing.rows()), [[int] * len(rows[0])] * len(rows))
