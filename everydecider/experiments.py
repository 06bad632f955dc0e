"""Experiments: for each state the probabilities of the signals."""

from everydecider.checks import check_prior, check_states, is_number_below
from everydecider.errors import BadRow, Mismatch, NoSignal, NoState
from everydecider.ratios import ratio
from everydecider.rows import check_rows, check_unit, lowest_rows, unit_rows


class Experiment:
    """An experiment in lowest terms, which never changes."""

    def __init__(self, unit, rows):
        check_unit(unit)
        check_states(len(rows))
        check_rows(unit, rows)
        self.unit, self._rows = lowest_rows(unit, rows)
        self.states = len(rows)
        self.signals = len(rows[0])

    def rows(self):
        """The rows in lowest terms, a list for each state."""
        return [list(row) for row in self._rows]

    def __len__(self):
        return len(self._rows[0])

    def __getitem__(self, at):
        state, signal = at
        if not is_number_below(state, self.states):
            raise NoState(state)
        if not is_number_below(signal, self.signals):
            raise NoSignal(signal)
        return ratio(self._rows[state][signal], self.unit)

    # Without this, Python would try to iterate by e[0], e[1] and so on.
    def __iter__(self):
        raise TypeError("an experiment is not iterated over")

    def __eq__(self, other):
        return isinstance(other, Experiment) and self.unit == other.unit and self._rows == other._rows


def probability(e, prior, signal):
    """The probability of a signal under a prior."""
    shares = _shares(e, prior, signal)
    return ratio(sum(shares), sum(prior) * e.unit)


def posterior(e, prior, signal):
    """The probabilities of the states behind a signal, or None if it cannot come."""
    shares = _shares(e, prior, signal)
    whole = sum(shares)
    if whole == 0:
        return None
    return [ratio(share, whole) for share in shares]


def _shares(e, prior, signal):
    """Integers proportional to the probabilities of a state together with a signal."""
    check_prior(prior)
    if len(prior) != e.states:
        raise Mismatch()
    if not is_number_below(signal, e.signals):
        raise NoSignal(signal)
    return [amount * row[signal] for amount, row in zip(prior, e.rows())]


def uninformative(states):
    """The experiment with one signal."""
    check_states(states)
    return Experiment(1, [[1] for _ in range(states)])


def revealing(states):
    """The experiment with a signal for each state."""
    check_states(states)
    return Experiment(1, unit_rows(states))


def two_signals(unit, hits):
    """The experiment whose signal 0 has an integer of a list in each state."""
    check_unit(unit)
    check_states(len(hits))
    for index, hit in enumerate(hits):
        if not is_number_below(hit, unit + 1):
            raise BadRow(index)
    return Experiment(unit, [[hit, unit - hit] for hit in hits])
