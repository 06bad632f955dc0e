"""Experiments compared for deciders with two acts, with shares of signals as evidence."""

from everydecider.checks import are_amounts, check_same_states, is_integer
from everydecider.fewacts import act_against, merging_paper, never_worse_for


def never_worse_for_two(one, other):
    """Tell whether the first experiment is never worse than the second one for two acts."""
    return never_worse_for(one, other, 2)


def two_act_against(one, other):
    """A decision with two acts in which the first experiment is worth less, or None."""
    # One act is never enough for that, so it has two.
    return act_against(one, other, 2)


def share_paper(one, other):
    """For each set of signals of the second experiment its shares of the first one, or None."""
    paper = merging_paper(one, other, 2)
    if paper is None:
        return None
    shares = {(): (1, [0] * one.signals), tuple(range(other.signals)): (1, [1] * one.signals)}
    # The garbling of a parting into two sets has the shares of both of them.
    for parting, garbling in paper.items():
        for at, group in enumerate(parting):
            shares[group] = (garbling.unit, [row[at] for row in garbling.rows()])
    return shares


def shows_shares(one, other, paper):
    """Tell whether a paper has, for each set of signals and nothing else, shares as share_paper has them."""
    check_same_states(one, other)
    sets = _sets(other.signals)
    if not isinstance(paper, dict) or len(paper) != len(sets):
        return False
    return all([signals in paper and _are_shares(one, paper[signals], other, signals) for signals in sets])


def _sets(count):
    """All sets of the numbers below a count, as ascending tuples."""
    sets = [()]
    for number in range(count):
        sets = sets + [chosen + (number,) for chosen in sets]
    return sets


def _are_shares(one, worth, other, signals):
    """Tell whether a unit and parts are the shares for a set of signals."""
    unit, parts = worth
    if not is_integer(unit) or unit < 1 or not are_amounts(parts) or len(parts) != one.signals or max(parts) > unit:
        return False
    for row, line in zip(one.rows(), other.rows()):
        held = sum([part * number for part, number in zip(parts, row)])
        if held * other.unit != sum([line[signal] for signal in signals]) * unit * one.unit:
            return False
    return True
