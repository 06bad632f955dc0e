"""Benches: experiments under names, with changes that can be taken back, and trials."""

from everydecider.checks import check_same_states, check_states
from everydecider.comparing import best_of, decision_against, garbling_from, order
from everydecider.errors import BadName, NameTaken, NothingToRedo, NothingToUndo, TooMany, UnknownName
from everydecider.garblings import garbled
from everydecider.together import both

_LETTERS = "abcdefghijklmnopqrstuvwxyz"
_LONGEST_NAME = 8
_MOST_SIGNALS = 6
_OPPOSITE = {"alike": "alike", "better": "worse", "worse": "better", "apart": "apart"}


class Bench:
    """Experiments with one number of states under names.

    A shelf is a dict from names to experiments. All shelves that there were are
    kept, in their order, also those that were taken back. None of them is ever
    changed: each change puts a new one behind the present one.
    """

    def __init__(self, states):
        check_states(states)
        self.states = states
        self._shelves = [{}]
        self._at = 0

    @property
    def undos(self):
        """The number of the changes that can be taken back."""
        return self._at

    @property
    def redos(self):
        """The number of the changes that can be done again."""
        return len(self._shelves) - 1 - self._at

    def names(self):
        """The names in ascending order."""
        return sorted(list(self._shelves[self._at]))

    def __len__(self):
        return len(self._shelves[self._at])

    def __contains__(self, name):
        return isinstance(name, str) and name in self._shelves[self._at]

    def __getitem__(self, name):
        if not isinstance(name, str) or name not in self._shelves[self._at]:
            raise UnknownName(name)
        return self._shelves[self._at][name]

    # Without this, Python would try to iterate by bench[0], bench[1] and so on.
    def __iter__(self):
        raise TypeError("a bench is not iterated over")

    def put(self, name, e):
        """Put an experiment under a new name."""
        self._check_new(name)
        check_same_states(self, e)
        self._set(name, e)

    def replace(self, name, e):
        """Put another experiment under a name."""
        self._check_known(name)
        check_same_states(self, e)
        self._set(name, e)

    def garble(self, name, g):
        """Put the garbled experiment in the place of the one with the name."""
        self._set(name, garbled(self[name], g))

    def combine(self, new, one, other):
        """Put both of two experiments under a new name."""
        self._check_known(one)
        self._check_known(other)
        self._check_new(new)
        count = self[one].signals * self[other].signals
        if count > _MOST_SIGNALS:
            raise TooMany(count)
        self._set(new, both(self[one], self[other]))

    def rename(self, name, new):
        """Give an experiment another name."""
        self._check_known(name)
        self._check_new(new)
        shelf = self._shelves[self._at]
        self._change({new if known == name else known: e for known, e in shelf.items()})

    def drop(self, name):
        """Remove an experiment."""
        self._check_known(name)
        shelf = self._shelves[self._at]
        self._change({known: e for known, e in shelf.items() if known != name})

    def undo(self):
        """Take back the last change that is not taken back."""
        if self.undos == 0:
            raise NothingToUndo()
        self._at -= 1

    def redo(self):
        """Do the change again that was taken back last."""
        if self.redos == 0:
            raise NothingToRedo()
        self._at += 1

    def forget(self):
        """Keep the experiments, but nothing that can be taken back or done again."""
        self._shelves = [self._shelves[self._at]]
        self._at = 0

    def order(self, one, other):
        """How two experiments compare: alike, better, worse or apart."""
        return order(self[one], self[other])

    def paper(self, one, other):
        """A garbling that makes the second experiment out of the first one, or a decision against the first one."""
        garbling = garbling_from(self[one], self[other])
        return decision_against(self[one], self[other]) if garbling is None else garbling

    def leaders(self):
        """The names of the experiments than which no other one is better, in ascending order."""
        names = self.names()
        return [names[index] for index in best_of([self[name] for name in names])]

    def table(self):
        """How each two experiments compare."""
        names = self.names()
        answer = {}
        for at, one in enumerate(names):
            for other in names[at + 1:]:
                word = order(self[one], self[other])
                answer[(one, other)] = word
                answer[(other, one)] = _OPPOSITE[word]
        return answer

    def trial(self):
        """An object for a with block, behind which the bench is as it was before."""
        return Trial(self)

    def tried(self, names, deed):
        """What a deed returns in a trial with the experiments of some names only."""
        for name in names:
            self._check_known(name)
        with self.trial() as bench:
            for name in bench.names():
                if name not in names:
                    bench.drop(name)
            return deed(bench)

    def _check_known(self, name):
        """Refuse what is no name on the bench."""
        if name not in self:
            raise UnknownName(name)

    def _check_new(self, name):
        """Refuse what is no name for a further experiment."""
        if not isinstance(name, str) or not 1 <= len(name) <= _LONGEST_NAME:
            raise BadName(name)
        if not all([letter in _LETTERS for letter in name]):
            raise BadName(name)
        if name in self:
            raise NameTaken(name)

    def _set(self, name, e):
        """Change what is under a name."""
        shelf = self._shelves[self._at]
        self._change({**shelf, name: e})

    def _change(self, shelf):
        """Put a shelf behind the present one, in the place of those that were taken back."""
        self._shelves = self._shelves[:self._at + 1] + [shelf]
        self._at += 1


class Trial:
    """Keeps what a bench has when a block begins, and gives it back when the block ends.

    No shelf and no list of shelves of a bench is ever changed, so nothing needs to be copied.
    """

    def __init__(self, bench):
        self._bench = bench
        self._shelves = []
        self._at = 0

    def __enter__(self):
        self._shelves = self._bench._shelves
        self._at = self._bench._at
        return self._bench

    def __exit__(self, kind, value, trace):
        self._bench._shelves = self._shelves
        self._bench._at = self._at
