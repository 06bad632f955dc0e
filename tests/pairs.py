"""Pairs of experiments, and comparisons worked out in another way, for the tests of several files."""

import random
from fractions import Fraction

from everydecider.experiments import Experiment
from everydecider.garblings import Garbling, garbled, renaming
from tests.values import some_experiment, some_garbling

CLEAR = Experiment(4, [[3, 1], [1, 3]])
DIM = Experiment(3, [[2, 1], [1, 2]])
SURE = Experiment(2, [[2, 0], [1, 1]])
BACK = {"alike": "alike", "better": "worse", "worse": "better", "apart": "apart"}
# The words for whether the first one is never worse, and whether the second one is.
WORDS = {(True, True): "alike", (True, False): "better", (False, True): "worse", (False, False): "apart"}


def worth(d, e):
    """The value of an experiment in a decision, as point [5] says it."""
    answer = Fraction(0)
    for signal in range(e.signals):
        answer += max(sum(Fraction(weight * row[signal] * payoff, sum(d.prior()) * e.unit)
                          for weight, row, payoff in zip(d.prior(), e.rows(), payoffs)) for payoffs in d.payoffs())
    return answer


def makes(one, garbling, other):
    """Point [4]: whether a garbling makes one experiment out of another one, multiplied out."""
    return garbling.before == one.signals and garbling.after == other.signals and all(
        sum(Fraction(number * to[new], one.unit * garbling.unit) for number, to in zip(row, garbling.rows())) ==
        Fraction(wanted[new], other.unit)
        for row, wanted in zip(one.rows(), other.rows()) for new in range(other.signals))


def alike_with(rng, e):
    """An experiment that is alike: signals parted and renamed, some with the probability 0 put in."""
    signal = rng.randrange(e.signals)
    part = rng.randint(0, 3)
    rows = [[3 * number for number in row] for row in e.rows()]
    rows = [row[:signal] + [row[signal] // 3 * part, row[signal] // 3 * (3 - part)] + row[signal + 1:] for row in rows]
    f = Experiment(3 * e.unit, rows)
    names = list(range(f.signals))
    rng.shuffle(names)
    return garbled(f, renaming(names))


def some_pairs(seed, count, most_signals=4):
    """Two experiments with as many states: some alike, some garbled, some with equal columns, some anyhow."""
    rng = random.Random(seed)
    for number in range(count):
        states = rng.randint(1, 4)
        e = some_experiment(rng, states, rng.randint(1, most_signals))
        kind = number % 5
        if kind == 0:
            yield e, alike_with(rng, e)
        elif kind == 1:
            yield e, garbled(e, some_garbling(rng, e.signals, rng.randint(1, most_signals)))
        elif kind == 2:
            f = garbled(e, some_garbling(rng, e.signals, rng.randint(1, most_signals)))
            yield alike_with(rng, e), alike_with(rng, f)
        elif kind == 3:
            yield alike_with(rng, e), some_experiment(rng, states, rng.randint(1, most_signals))
        else:
            yield e, some_experiment(rng, states, rng.randint(1, most_signals), rng.choice([0, 0.6]))


def altered(garbling):
    """Garblings with a unit of one row moved to another place."""
    for at, row in enumerate(garbling.rows()):
        for source in range(garbling.after):
            for target in range(garbling.after):
                if source != target and row[source] > 0:
                    rows = garbling.rows()
                    rows[at][source] -= 1
                    rows[at][target] += 1
                    yield Garbling(garbling.unit, rows)
