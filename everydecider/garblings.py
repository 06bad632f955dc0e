"""Garblings: for each old signal the probabilities of the new ones."""

from everydecider.checks import check_count, is_number_below
from everydecider.errors import BadGroups, BadSize, Mismatch, NoSignal
from everydecider.experiments import Experiment
from everydecider.ratios import ratio
from everydecider.rows import check_rows, check_unit, lowest_rows, multiplied, unit_rows


class Garbling:
    """A garbling in lowest terms, which never changes."""

    def __init__(self, unit, rows):
        check_unit(unit)
        if len(rows) == 0:
            raise BadSize(0)
        check_rows(unit, rows)
        self.unit, self._rows = lowest_rows(unit, rows)
        self.before = len(rows)
        self.after = len(rows[0])

    def rows(self):
        """The rows in lowest terms, a list for each old signal."""
        return [list(row) for row in self._rows]

    def __getitem__(self, at):
        old, new = at
        if not is_number_below(old, self.before):
            raise NoSignal(old)
        if not is_number_below(new, self.after):
            raise NoSignal(new)
        return ratio(self._rows[old][new], self.unit)

    # Without this, Python would try to iterate by g[0], g[1] and so on.
    def __iter__(self):
        raise TypeError("a garbling is not iterated over")

    def __eq__(self, other):
        return isinstance(other, Garbling) and self.unit == other.unit and self._rows == other._rows

    def __mul__(self, other):
        if self.after != other.before:
            raise Mismatch()
        return Garbling(self.unit * other.unit, multiplied(self._rows, other._rows))


def garbled(e, g):
    """The experiment whose signals a garbling replaces by new ones."""
    if g.before != e.signals:
        raise Mismatch()
    return Experiment(e.unit * g.unit, multiplied(e.rows(), g.rows()))


def unchanged(signals):
    """The garbling that replaces each signal by itself."""
    check_count(signals)
    return Garbling(1, unit_rows(signals))


def merging(groups, signals):
    """The garbling that replaces each signal by the number of its group."""
    check_count(signals)
    if not _are_groups(groups) or not _is_order([signal for group in groups for signal in group], signals):
        raise BadGroups()
    return Garbling(1, [[int(signal in group) for group in groups] for signal in range(signals)])


def renaming(order):
    """The garbling that replaces the signal order[k] by the signal k."""
    if not isinstance(order, (list, tuple)) or len(order) == 0 or not _is_order(order, len(order)):
        raise BadGroups()
    return Garbling(1, [[int(old == signal) for signal in order] for old in range(len(order))])


def is_sharp(g):
    """Tell whether each probability of a garbling is 0 or 1."""
    # In lowest terms, because then all integers have the unit as a divisor.
    return g.unit == 1


def _are_groups(groups):
    """Tell whether a value is a list of lists, none of them empty."""
    if not isinstance(groups, (list, tuple)):
        return False
    return all([isinstance(group, (list, tuple)) and len(group) > 0 for group in groups])


def _is_order(numbers, count):
    """Tell whether a list has each of the numbers below a count just once."""
    if len(numbers) != count or not all([is_number_below(number, count) for number in numbers]):
        return False
    return sorted(numbers) == list(range(count))
