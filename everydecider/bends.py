"""Values for all priors of two states, groups of signals, priors and mixtures for acts."""

from everydecider.checks import check_payoffs, check_two_states, is_number_below, is_ratio
from everydecider.decisions import Decision, best_acts, value
from everydecider.errors import BadPrior, NoAct, NoSignal
from everydecider.fewacts import partings
from everydecider.linear import solve
from everydecider.ratios import ascending, compare, lowest, minus, ratio

_NEVER = (0, 1)
_ALWAYS = (1, 1)


def value_at(e, payoffs, chance):
    """The value of an experiment in a decision with these payoffs at a chance."""
    _check([e], payoffs)
    if not is_ratio(chance) or compare(chance, _NEVER) < 0 or compare(chance, _ALWAYS) > 0:
        raise BadPrior()
    return _value(e, payoffs, chance)


def bends(e, payoffs):
    """The chances 0 and 1 and those at which the value bends, each with the value."""
    _check([e], payoffs)
    return [(chance, _value(e, payoffs, chance)) for chance in ascending(_bends([e], payoffs))]


def act_stretch(e, payoffs, signal, act):
    """The least and the greatest chance at which an act is best for a signal, or None."""
    _check([e], payoffs)
    if not is_number_below(signal, e.signals):
        raise NoSignal(signal)
    if not is_number_below(act, len(payoffs)):
        raise NoAct(act)
    lines = _lines(e, payoffs, signal)
    start, end = lines[act]
    stretch = (_NEVER, _ALWAYS)
    for other_start, other_end in lines:
        stretch = _narrowed(stretch, start - other_start, end - other_end)
        if stretch is None:
            return None
    return stretch


def worse_chance(one, other, payoffs):
    """The first chance at which the second experiment is worth most above the first one, with the amount, or None."""
    _check([one, other], payoffs)
    greatest = (0, 1)
    answer = None
    for chance in ascending(_bends([one, other], payoffs)):
        amount = minus(_value(other, payoffs, chance), _value(one, payoffs, chance))
        if compare(amount, greatest) > 0:
            greatest = amount
            answer = (chance, amount)
    return answer


def groups_for(d, e):
    """The fewest groups of signals that keep the value in a decision."""
    return groups_for_all([d], e)


def groups_for_all(decisions, e):
    """The fewest groups of signals that keep the value in each of several decisions."""
    best = [best_acts(d, e) for d in decisions]
    count = 1
    while True:
        for parting in partings(e.signals, count):
            # A group loses nothing if one act is best for all of its signals.
            if all([_have_one_act(acts, group) for acts in best for group in parting]):
                return [list(group) for group in parting]
        count += 1


def prior_for(payoffs, act):
    """A prior for which an act has the greatest mean payoff, or None."""
    answer = _weigh(payoffs, act)
    if answer[0] == "multipliers":
        return None
    return lowest(answer[2][:len(payoffs[0])])


def mixture_above(payoffs, act):
    """Weights of acts with a greater mean payoff, in every state, than an act, or None."""
    answer = _weigh(payoffs, act)
    if answer[0] == "amounts":
        return None
    weights = answer[1][:-1]
    return lowest(weights[:act] + [0] + weights[act:])


def _check(experiments, payoffs):
    """Refuse experiments of another number of states than two, and payoffs that are not for two states."""
    check_two_states(experiments)
    check_payoffs(payoffs, 2, 2)


def _value(e, payoffs, chance):
    """The value at what is a chance."""
    top, bottom = chance
    return value(Decision(payoffs, [bottom - top, top]), e)


def _lines(e, payoffs, signal):
    """For each act what it contributes behind a signal at the chances 0 and 1, multiplied by the unit."""
    x, y = [row[signal] for row in e.rows()]
    return [(x * first, y * second) for first, second in payoffs]


def _height(line, chance):
    """What a line contributes at a chance, multiplied by the bottom of the chance."""
    start, end = line
    top, bottom = chance
    return start * (bottom - top) + end * top


def _bends(experiments, payoffs):
    """The chances 0 and 1 and those at which the value of one of the experiments bends."""
    lists = [_lines(e, payoffs, signal) for e in experiments for signal in range(e.signals)]
    return [_NEVER, _ALWAYS] + [chance for lines in lists for chance in _turns(lines)]


def _turns(lines):
    """The chances between 0 and 1 at which one line ends to be the highest one and another one begins to."""
    found = []
    for start, end in lines:
        for other_start, other_end in lines:
            lack = start - other_start
            gain = other_end - end
            if lack > 0 and gain > 0:
                chance = ratio(lack, lack + gain)
                if _height((start, end), chance) == max([_height(line, chance) for line in lines]):
                    found.append(chance)
    return found


def _narrowed(stretch, start, end):
    """The part of a stretch at which a line from this start to this end is not below 0, or None."""
    low, high = stretch
    if start < 0 and end < 0:
        return None
    if start < 0:
        low = ascending([low, ratio(-start, end - start)])[-1]
    if end < 0:
        high = ascending([high, ratio(start, start - end)])[0]
    return None if compare(low, high) > 0 else (low, high)


def _have_one_act(acts, group):
    """Tell whether one act is best for all signals of a group."""
    return any([all([act in acts[signal] for signal in group]) for act in acts[group[0]]])


def _weigh(payoffs, act):
    """Solve the program whose amounts are a prior for an act, and whose multipliers are a mixture above it.

    There is a column for each state, and one for each other act: by how much
    its mean payoff is less. The last row makes the prior one that is not all 0.
    """
    check_payoffs(payoffs)
    if not is_number_below(act, len(payoffs)):
        raise NoAct(act)
    others = [row for index, row in enumerate(payoffs) if index != act]
    size = len(others)
    rows = [[own - payoff for own, payoff in zip(payoffs[act], other)] + [-int(place == at) for place in range(size)]
            for at, other in enumerate(others)]
    rows.append([1] * len(payoffs[0]) + [0] * size)
    return solve(rows, [0] * size + [1])
