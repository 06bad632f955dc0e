"""Experiments put together: two of them done, one of several done, states chosen anew."""

from everydecider.checks import (are_weights, check_all_same_states, check_same_states, check_states, is_integer,
                                 is_number_below)
from everydecider.errors import BadSize, BadTimes, BadWeights, Mismatch, NoState, TooMany
from everydecider.experiments import Experiment, uninformative
from everydecider.garblings import Garbling
from everydecider.ratios import common

_MOST_SIGNALS = 64
_MOST_TIMES = 6


def both(one, other):
    """The experiment in which a signal of each of two experiments is seen."""
    check_same_states(one, other)
    _check_signals(one.signals * other.signals)
    rows = [_products(row, line) for row, line in zip(one.rows(), other.rows())]
    return Experiment(one.unit * other.unit, rows)


def again(e, times):
    """The experiment in which another one is done so many times."""
    if not is_integer(times) or not 0 <= times <= _MOST_TIMES:
        raise BadTimes(times)
    count = 1
    for _ in range(times):
        count = count * e.signals
    _check_signals(count)
    answer = uninformative(e.states)
    for _ in range(times):
        answer = both(answer, e)
    return answer


def one_of(experiments, weights):
    """The experiment in which one of several is done at random, and it is seen which one."""
    _check_not_empty(experiments)
    check_all_same_states(experiments)
    _check_weights(weights, len(experiments))
    _check_signals(sum([e.signals for e in experiments]))
    unit, parts = _weighted(experiments, weights)
    return Experiment(unit, [[number for row in rows for number in row] for rows in zip(*parts)])


def blended(experiments, weights):
    """The experiment in which one of several is done at random, and it is not seen which one."""
    _check_not_empty(experiments)
    check_all_same_states(experiments)
    for e in experiments:
        if e.signals != experiments[0].signals:
            raise Mismatch()
    _check_weights(weights, len(experiments))
    unit, parts = _weighted(experiments, weights)
    return Experiment(unit, [[sum(numbers) for numbers in zip(*rows)] for rows in zip(*parts)])


def at_states(e, states):
    """The experiment whose states are some of the states of another one."""
    check_states(len(states))
    for state in states:
        if not is_number_below(state, e.states):
            raise NoState(state)
    rows = e.rows()
    return Experiment(e.unit, [rows[state] for state in states])


def both_garblings(one, other):
    """The garbling that garbles both signals by themselves."""
    rows = [_products(row, line) for row in one.rows() for line in other.rows()]
    return Garbling(one.unit * other.unit, rows)


def side_by_side(garblings):
    """The garbling that garbles the signals of each of several experiments by themselves."""
    _check_not_empty(garblings)
    unit, factors = common([(1, garbling.unit) for garbling in garblings])
    width = sum([garbling.after for garbling in garblings])
    rows = []
    ahead = 0
    for garbling, factor in zip(garblings, factors):
        behind = width - ahead - garbling.after
        for row in garbling.rows():
            rows.append([0] * ahead + [number * factor for number in row] + [0] * behind)
        ahead += garbling.after
    return Garbling(unit, rows)


def _check_not_empty(things):
    """Refuse an empty list."""
    if len(things) == 0:
        raise BadSize(0)


def _check_weights(weights, count):
    """Refuse what are no weights, one for each of so many experiments."""
    if not are_weights(weights) or len(weights) != count:
        raise BadWeights()


def _check_signals(count):
    """Refuse so many signals if they are too many."""
    if count > _MOST_SIGNALS:
        raise TooMany(count)


def _products(row, line):
    """The products of each item of a row and each item of another one."""
    return [number * factor for number in row for factor in line]


def _weighted(experiments, weights):
    """A common unit, and for each experiment its rows over it, multiplied by its share of the weights."""
    unit, factors = common([(1, e.unit) for e in experiments])
    parts = [[[number * factor * weight for number in row] for row in e.rows()]
             for e, factor, weight in zip(experiments, factors, weights)]
    return (unit * sum(weights), parts)
