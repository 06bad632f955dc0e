"""Decisions: for each act the payoffs in the states, and a prior."""

from everydecider.checks import are_integers, are_weights, check_payoffs, check_same_states, is_integer, is_number_below
from everydecider.errors import BadPrior, BadRule, BadTimes, Mismatch, NoAct, NoState
from everydecider.experiments import uninformative
from everydecider.ratios import lowest, minus, ratio


class Decision:
    """A decision with its prior in lowest terms, which never changes."""

    def __init__(self, payoffs, prior):
        check_payoffs(payoffs)
        if not are_weights(prior) or len(prior) != len(payoffs[0]):
            raise BadPrior()
        self._payoffs = tuple([tuple(row) for row in payoffs])
        self._prior = tuple(lowest(prior))
        self.states = len(prior)

    @property
    def acts(self):
        """The number of the acts."""
        return len(self._payoffs)

    def payoffs(self):
        """The payoffs, a list for each act."""
        return [list(row) for row in self._payoffs]

    def prior(self):
        """The prior in lowest terms."""
        return list(self._prior)

    def __getitem__(self, at):
        act, state = at
        if not is_number_below(act, self.acts):
            raise NoAct(act)
        if not is_number_below(state, self.states):
            raise NoState(state)
        return self._payoffs[act][state]

    # Without this, Python would try to iterate by d[0], d[1] and so on.
    def __iter__(self):
        raise TypeError("a decision is not iterated over")

    def __eq__(self, other):
        return isinstance(other, Decision) and self._payoffs == other._payoffs and self._prior == other._prior


def value(d, e):
    """The greatest gain of a rule."""
    return _mean(d, e, [max(merits) for merits in _merits(d, e)])


def gain(d, e, rule):
    """The gain of a rule: of a list with an act for each signal."""
    merits = _merits(d, e)
    for index in range(max(e.signals, len(rule))):
        if index >= e.signals or index >= len(rule) or not is_number_below(rule[index], d.acts):
            raise BadRule(index)
    return _mean(d, e, [of_acts[act] for of_acts, act in zip(merits, rule)])


def best_acts(d, e):
    """For each signal the list of its best acts."""
    return [[act for act, merit in enumerate(merits) if merit == max(merits)] for merits in _merits(d, e)]


def best_rule(d, e):
    """For each signal the least of its best acts."""
    return [acts[0] for acts in best_acts(d, e)]


def price(d, e):
    """How much greater the value of an experiment is than the value without a signal."""
    return minus(value(d, e), value(d, uninformative(d.states)))


def _merits(d, e):
    """For each signal and act the sum over the states of prior times probability times payoff.

    These are integers: the sums are multiplied by the unit and the sum of the prior.
    """
    check_same_states(d, e)
    weights = [[amount * number for number in row] for amount, row in zip(d.prior(), e.rows())]
    return [[sum([payoff * row[signal] for payoff, row in zip(payoffs, weights)]) for payoffs in d.payoffs()]
            for signal in range(e.signals)]


def _mean(d, e, merits):
    """The gain that consists of a merit for each signal."""
    return ratio(sum(merits), sum(d.prior()) * e.unit)


def shifted(d, amounts):
    """The decision with the amount of each state added to all payoffs in it."""
    if not are_integers(amounts) or len(amounts) != d.states:
        raise Mismatch()
    return Decision([[payoff + amount for payoff, amount in zip(row, amounts)] for row in d.payoffs()], d.prior())


def scaled(d, factor):
    """The decision with all payoffs multiplied by an integer."""
    if not is_integer(factor) or factor < 1:
        raise BadTimes(factor)
    return Decision([[payoff * factor for payoff in row] for row in d.payoffs()], d.prior())


def with_prior(d, prior):
    """The decision with another prior."""
    return Decision(d.payoffs(), prior)


def without_act(d, act):
    """The decision that lacks an act."""
    if not is_number_below(act, d.acts):
        raise NoAct(act)
    # If it is the only one, the constructor raises BadSize(0).
    return Decision([row for index, row in enumerate(d.payoffs()) if index != act], d.prior())


def regrets(d):
    """The decision whose payoffs tell how much an act falls short of the best one in the state."""
    payoffs = d.payoffs()
    greatest = [max([row[state] for row in payoffs]) for state in range(d.states)]
    return shifted(d, [-payoff for payoff in greatest])
