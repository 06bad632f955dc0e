"""Standard forms: what an experiment tells, whatever its signals are called and however they are split."""

from everydecider.checks import are_weights, check_same_states, is_number_below
from everydecider.errors import BadWeights, NoSignal
from everydecider.experiments import Experiment
from everydecider.garblings import Garbling, merging
from everydecider.ratios import common, lowest
from everydecider.rows import turned


def standard(e):
    """The standard form of an experiment."""
    columns = turned(e.rows())
    sums = []
    for group in _groups(columns):
        rows = turned([columns[signal] for signal in group])
        sums.append([sum(row) for row in rows])
    return Experiment(e.unit, turned(sums))


def alike(one, other):
    """Tell whether two experiments are alike."""
    check_same_states(one, other)
    return standard(one) == standard(other)


def fewest_signals(e):
    """The least number of signals of an experiment that is alike."""
    return len(_groups(turned(e.rows())))


def to_standard(e):
    """The garblings that make the standard form out of an experiment, and the experiment out of that."""
    columns = turned(e.rows())
    groups = _groups(columns)
    amounts = [sum(column) for column in columns]
    # A signal that never comes may be replaced by any one.
    never = [signal for signal, amount in enumerate(amounts) if amount == 0]
    there = merging([groups[0] + never] + groups[1:], e.signals)
    unit, factors = common([(1, sum([amounts[signal] for signal in group])) for group in groups])
    back = [[amount * factor * int(signal in group) for signal, amount in enumerate(amounts)]
            for group, factor in zip(groups, factors)]
    return (there, Garbling(unit, back))


def split(e, signal, weights):
    """The experiment in which a signal is replaced by several ones, in proportion to their weights."""
    if not is_number_below(signal, e.signals):
        raise NoSignal(signal)
    if not are_weights(weights):
        raise BadWeights()
    whole = sum(weights)
    columns = []
    for at, column in enumerate(turned(e.rows())):
        factors = weights if at == signal else [whole]
        columns.extend([[number * factor for number in column] for factor in factors])
    return Experiment(e.unit * whole, turned(columns))


def without_empty(e):
    """The experiment without the signals that never come."""
    return Experiment(e.unit, turned([column for column in turned(e.rows()) if sum(column) > 0]))


def _groups(columns):
    """The signals with proportional columns, in the order of their posteriors, without those that never come."""
    groups = {}
    for signal, column in enumerate(columns):
        if sum(column) > 0:
            groups.setdefault(tuple(lowest(column)), []).append(signal)
    # Over a common sum the posteriors are integers, and lists of them can be compared.
    _, factors = common([(1, sum(column)) for column in groups])
    posteriors = [[number * factor for number in column] for column, factor in zip(groups, factors)]
    pairs = sorted(list(zip(posteriors, list(groups.values()))))
    return [group for _, group in pairs]
