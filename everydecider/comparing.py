"""Experiments compared for all deciders, with evidence for both answers."""

from everydecider.checks import check_same_states
from everydecider.decisions import Decision, value
from everydecider.garblings import Garbling, garbled
from everydecider.linear import solve
from everydecider.ratios import compare


def garbling_from(one, other):
    """A garbling that makes the second experiment out of the first one, or None."""
    answer = _search(one, other)
    if answer[0] == "multipliers":
        return None
    _, unit, amounts = answer
    width = other.signals
    return Garbling(unit, [amounts[start:start + width] for start in range(0, len(amounts), width)])


def decision_against(one, other):
    """A decision in which the value of the first experiment is less than that of the second, or None."""
    answer = _search(one, other)
    if answer[0] == "amounts":
        return None
    width = other.signals - 1
    numbers = answer[1]
    payoffs = [[numbers[state * width + act] for state in range(one.states)] for act in range(width)]
    return Decision(payoffs + [[0] * one.states], [1] * one.states)


def _search(one, other):
    """Solve the program whose amounts are a garbling of the first experiment that is the second.

    There is a column for each old and new signal. The last new signal gets what
    the others leave over, so the equations of its probabilities are left out.
    If there is no garbling, the multipliers of the equations of a new signal are
    the payoffs of an act against the first experiment: choose it at this signal.
    The act for the last new signal has the payoff 0 in each state.
    """
    check_same_states(one, other)
    lines = []
    totals = []
    for row, wanted in zip(one.rows(), other.rows()):
        for new in range(other.signals - 1):
            lines.append([other.unit * number * int(at == new) for number in row for at in range(other.signals)])
            totals.append(one.unit * wanted[new])
    for old in range(one.signals):
        lines.append([int(at == old) for at in range(one.signals) for _ in range(other.signals)])
        totals.append(1)
    return solve(lines, totals)


def never_worse(one, other):
    """Tell whether the first experiment is never worse than the second one."""
    return _search(one, other)[0] == "amounts"


def order(one, other):
    """How two experiments compare: alike, better, worse or apart."""
    if never_worse(one, other):
        return "alike" if never_worse(other, one) else "better"
    return "worse" if never_worse(other, one) else "apart"


def shows_never_worse(one, other, garbling):
    """Tell whether a garbling makes the second experiment out of the first one."""
    check_same_states(one, other)
    return garbling.before == one.signals and garbled(one, garbling) == other


def shows_worse(one, other, decision):
    """Tell whether the value of the first experiment in a decision is less than that of the second."""
    check_same_states(one, other)
    return decision.states == one.states and compare(value(decision, one), value(decision, other)) < 0


def best_of(experiments):
    """The indices of the experiments of a list than which no other one is better."""
    return best_in(_table(experiments))


def groups_alike(experiments):
    """The groups of indices of the experiments of a list that are alike."""
    table = _table(experiments)
    firsts = {}
    for index in range(len(experiments)):
        same = [other for other in range(index + 1) if table[index][other] and table[other][index]]
        firsts.setdefault(same[0], []).append(index)
    return list(firsts.values())


def best_in(table):
    """The indices than which no other one is better, from a table that tells which one is never worse than which."""
    indices = list(range(len(table)))
    return [index for index in indices
            if all([table[index][other] or not table[other][index] for other in indices])]


def _table(experiments):
    """For each two experiments of a list: whether the first one is never worse."""
    return [[never_worse(one, other) for other in experiments] for one in experiments]
