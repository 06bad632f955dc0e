"""The errors that the package raises.

An error with attributes does not pass a message to its base class: then the
values that it was created with are its message, and they are not written out
before somebody asks for it. They may be values of any kind.
"""


class DeciderError(ValueError):
    """What all errors of the package have in common."""


class BadRatio(DeciderError):
    """A ratio would have the bottom 0."""

    def __init__(self, bottom):
        self.bottom = bottom


class BadText(DeciderError):
    """A string is not the text of a ratio."""


class BadUnit(DeciderError):
    """A unit is not an integer of at least 1."""

    def __init__(self, unit):
        self.unit = unit


class BadSize(DeciderError):
    """A number of states, signals, acts or items is not allowed."""

    def __init__(self, size):
        self.size = size


class BadRow(DeciderError):
    """A row does not consist of the integers that it should have."""

    def __init__(self, index):
        self.index = index


class Mismatch(DeciderError):
    """Numbers of states, signals or acts do not agree."""


class BadPayoffs(DeciderError):
    """A row of payoffs does not consist of an integer for each state."""

    def __init__(self, index):
        self.index = index


class BadPrior(DeciderError):
    """A prior is not a list of integers of at least 0 that are not all 0."""


class BadRule(DeciderError):
    """A rule has no act for a signal, or an item without a signal."""

    def __init__(self, index):
        self.index = index


class BadGroups(DeciderError):
    """Groups or an order do not have each signal just once."""


class BadWeights(DeciderError):
    """Weights are not integers of at least 0 that are not all 0."""


class BadTimes(DeciderError):
    """A number of times or a factor is not allowed."""

    def __init__(self, times):
        self.times = times


class TooMany(DeciderError):
    """An experiment would have too many signals."""

    def __init__(self, count):
        self.count = count


class NoSignal(DeciderError):
    """There is no such signal."""

    def __init__(self, signal):
        self.signal = signal


class NoState(DeciderError):
    """There is no such state."""

    def __init__(self, state):
        self.state = state


class NoAct(DeciderError):
    """There is no such act."""

    def __init__(self, act):
        self.act = act


class NotTwoStates(DeciderError):
    """An experiment has another number of states than two."""

    def __init__(self, states):
        self.states = states


class BadCorners(DeciderError):
    """Points are not the corners of an experiment."""

    def __init__(self, index):
        self.index = index


class BadProgram(DeciderError):
    """Rows, totals and costs are not a linear program."""


class BadName(DeciderError):
    """A string is not a name for a bench."""

    def __init__(self, name):
        self.name = name


class NameTaken(DeciderError):
    """A name is on a bench already."""

    def __init__(self, name):
        self.name = name


class UnknownName(DeciderError):
    """A name is not on a bench."""

    def __init__(self, name):
        self.name = name


class NothingToUndo(DeciderError):
    """There is no change that can be taken back."""


class NothingToRedo(DeciderError):
    """There is no change that can be done again."""


class BadLine(DeciderError):
    """A line of a text is not as it should be."""

    def __init__(self, line):
        self.line = line
