"""Checks of arguments that several files have in common."""

from math import gcd

from everydecider.errors import BadPayoffs, BadPrior, BadSize, Mismatch, NotTwoStates

_MOST_STATES = 4


def is_integer(value):
    """Tell whether a value is an integer: True and False are none."""
    return isinstance(value, int) and not isinstance(value, bool)


def is_number_below(value, count):
    """Tell whether a value is one of the numbers 0, 1, .. below a count."""
    return is_integer(value) and 0 <= value < count


def are_integers(values):
    """Tell whether a value is a list of integers."""
    return isinstance(values, (list, tuple)) and all([is_integer(value) for value in values])


def are_amounts(values):
    """Tell whether a value is a list of integers of at least 0."""
    return are_integers(values) and all([value >= 0 for value in values])


def are_weights(values):
    """Tell whether a value is a list of integers of at least 0, not all 0."""
    return are_amounts(values) and sum(values) > 0


def is_ratio(value):
    """Tell whether a value is a ratio: a tuple of two integers in lowest terms."""
    if not isinstance(value, tuple) or not are_integers(value) or len(value) != 2:
        return False
    top, bottom = value
    return bottom >= 1 and gcd(top, bottom) == 1


def check_prior(prior):
    """Refuse what is no prior, whatever the number of the states is."""
    if not are_weights(prior):
        raise BadPrior()


def check_payoffs(payoffs, fewest=1, most=_MOST_STATES):
    """Refuse what are no payoffs: a row for each act, with an integer for each of so many states."""
    if len(payoffs) == 0:
        raise BadSize(0)
    for index, row in enumerate(payoffs):
        if not are_integers(row) or len(row) != len(payoffs[0]) or not fewest <= len(row) <= most:
            raise BadPayoffs(index)


def check_same_states(one, other):
    """Refuse two experiments, or an experiment and a decision, of unlike numbers of states."""
    if one.states != other.states:
        raise Mismatch()


def check_all_same_states(experiments):
    """Refuse a list of experiments of unlike numbers of states."""
    for e in experiments:
        check_same_states(experiments[0], e)


def check_two_states(experiments):
    """Refuse experiments of another number of states than two."""
    for e in experiments:
        if e.states != 2:
            raise NotTwoStates(e.states)


def check_count(count):
    """Refuse what is no number of signals or acts: an integer of at least 1."""
    if not is_integer(count) or count < 1:
        raise BadSize(count)


def check_states(states):
    """Refuse what is no number of states."""
    if not is_integer(states) or not 1 <= states <= _MOST_STATES:
        raise BadSize(states)
