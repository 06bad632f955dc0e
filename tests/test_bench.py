"""Points [7], [8] and [131] to [136]: benches."""

import random
import unittest

from everydecider import bench as module
from everydecider import comparing, experiments, garblings
from everydecider.bench import Bench
from everydecider.comparing import best_of, order
from everydecider.decisions import Decision
from everydecider.errors import (BadName, BadSize, DeciderError, Mismatch, NameTaken, NothingToRedo, NothingToUndo,
                                 TooMany, UnknownName)
from everydecider.experiments import Experiment, revealing, uninformative
from everydecider.garblings import Garbling, garbled, merging, renaming, unchanged
from everydecider.together import both
from tests.examples import expect_error, run_examples
from tests.limits import in_time
from tests.pairs import BACK, CLEAR, DIM, SURE, makes, worth
from tests.values import BIG, NO_INTEGERS, all_lists, parts, some_experiment, some_garbling

EXAMPLES = """
    >>> bench = Bench(2)
    >>> bench.put("clear", Experiment(4, [[3, 1], [1, 3]]))
    >>> bench.put("dim", Experiment(3, [[2, 1], [1, 2]]))
    >>> [bench.names(), bench.order("clear", "dim"), bench.leaders(), bench.undos]
    [['clear', 'dim'], 'better', ['clear'], 2]
    >>> bench.garble("clear", merging([[0, 1]], 2))
    >>> [bench.leaders(), bench.tried(["clear"], lambda b: b.leaders()), bench["clear"] == uninformative(2)]
    [['dim'], ['clear'], True]
    >>> bench.undo()
    >>> [bench.redos, bench.table()[("dim", "clear")]]
    [1, 'worse']
"""
NO_NAMES = ["", "abcdefghi", "a" * 9, "a" * 100, "A", "Abc", "aBc", "abC", "a1", "1", "a b", " a", "a ", "a\n", "\na", "\n",
            " ", "a-b", "a_b", "_", "a.b", "`", "{", "@", "a" * 8 + " ", "\t", "\u00e9", "\u0430", "\u00df", "\uff41"]
NO_STRINGS = [value for value in NO_INTEGERS if not isinstance(value, str)] + [1, 0, ("clear",), ["clear"]]
FOUR = Experiment(4, [[1] * 4] * 2)


def some_bench():
    """A bench with three experiments and two changes that were taken back."""
    bench = Bench(2)
    for name, e in [("clear", CLEAR), ("sure", SURE), ("dim", DIM), ("gone", DIM), ("off", CLEAR)]:
        bench.put(name, e)
    bench.undo()
    bench.undo()
    return bench


def state(bench):
    """What a bench keeps: experiments under names, and what can be taken back and done again."""
    return ({name: bench[name].rows() for name in bench.names()}, bench.undos, bench.redos)


def histories(bench):
    """The experiments under names behind each change that can be taken back or done again, all the way."""
    found = []
    behind = bench.undos
    while bench.undos:
        bench.undo()
    while True:
        found.append({name: bench[name].rows() for name in bench.names()})
        if not bench.redos:
            break
        bench.redo()
    while bench.undos > behind:
        bench.undo()
    return found


class Examples(unittest.TestCase):

    def test_examples(self):
        run_examples(self, EXAMPLES, {**vars(experiments), **vars(garblings), **vars(comparing), **vars(module)})


class Keeping(unittest.TestCase):

    def test_empty(self):
        for states in (1, 2, 3, 4):
            bench = Bench(states)
            self.assertEqual([bench.states, bench.names(), len(bench), bench.undos, bench.redos], [states, [], 0, 0, 0])
            self.assertEqual([bench.leaders(), bench.table(), "a" in bench], [[], {}, False])
        self.assertEqual(Bench(states=3).states, 3)
        for wrong in [0, 5, -1, BIG, -BIG, *NO_INTEGERS]:
            expect_error(self, BadSize(wrong), lambda: Bench(wrong))

    def test_names(self):
        bench = some_bench()
        self.assertEqual([bench.names(), len(bench)], [["clear", "dim", "sure"], 3])
        self.assertEqual(["clear" in bench, "gone" in bench, "" in bench, "Clear" in bench, "clea" in bench, None in bench],
                         [True, False, False, False, False, False])
        self.assertIs("gone" not in bench, True)
        self.assertEqual([bench["clear"], bench["dim"], bench["sure"]], [CLEAR, DIM, SURE])
        for name in ["gone", "off", *NO_NAMES, *NO_STRINGS]:
            expect_error(self, UnknownName(name), lambda: bench[name])
            self.assertIs(name in bench, False)
        for name in ["a", "z", "az", "abcdefgh", "zzzzzzzz", "q" * 8]:
            bench.put(name, CLEAR)
            self.assertIs(name in bench, True)
        self.assertEqual(bench.names(), ["a", "abcdefgh", "az", "clear", "dim", "qqqqqqqq", "sure", "z", "zzzzzzzz"])

    def test_new_on_each_call(self):
        bench = some_bench()
        bench.names().clear()
        bench.leaders().clear()
        bench.table().clear()
        table = bench.table()
        table["clear", "dim"] = "worse"
        self.assertEqual([bench.names(), bench.leaders(), len(bench.table()), bench.table()["clear", "dim"]],
                         [["clear", "dim", "sure"], ["clear", "sure"], 6, "better"])
        self.assertEqual(all_lists([bench.names(), bench.leaders()]), [[str] * 3, [str] * 2])

    def test_iteration(self):
        with self.assertRaises(TypeError):
            list(some_bench())

    def test_benches_have_nothing_in_common(self):
        one, other = some_bench(), some_bench()
        one.drop("dim")
        self.assertEqual([len(one), len(other), one.undos, other.undos], [2, 3, 4, 3])


class Changes(unittest.TestCase):

    def refuse(self, expected, deed):
        """A deed that raises an error changes nothing."""
        bench = some_bench()
        kept, before = state(bench), histories(bench)
        expect_error(self, expected, lambda: deed(bench))
        self.assertEqual([state(bench), histories(bench)], [kept, before])

    def change(self, deed, expected):
        """A deed that returns None and is one change; those that were taken back are lost."""
        bench = some_bench()
        before = state(bench)
        self.assertIsNone(deed(bench))
        after = {name: e.rows() for name, e in expected.items()}
        self.assertEqual(state(bench), (after, 4, 0))
        self.assertEqual([len(bench), bench.names()], [len(expected), sorted(expected)])
        bench.undo()
        self.assertEqual(state(bench), (before[0], 3, 1))
        bench.redo()
        self.assertEqual(state(bench), (after, 4, 0))

    def test_put(self):
        self.change(lambda b: b.put("new", FOUR), {"clear": CLEAR, "sure": SURE, "dim": DIM, "new": FOUR})
        self.change(lambda b: b.put(e=CLEAR, name="gone"), {"clear": CLEAR, "sure": SURE, "dim": DIM, "gone": CLEAR})
        for name in [*NO_NAMES, *NO_STRINGS]:
            for e in (CLEAR, revealing(3)):
                self.refuse(BadName(name), lambda b: b.put(name, e))
        for e in (CLEAR, revealing(3)):
            self.refuse(NameTaken("dim"), lambda b: b.put("dim", e))
        for states in (1, 3, 4):
            self.refuse(Mismatch(), lambda b: b.put("new", revealing(states)))

    def test_replace(self):
        self.change(lambda b: b.replace("dim", FOUR), {"clear": CLEAR, "sure": SURE, "dim": FOUR})
        self.change(lambda b: b.replace(e=DIM, name="dim"), {"clear": CLEAR, "sure": SURE, "dim": DIM})
        for name in ["gone", "off", *NO_NAMES, *NO_STRINGS]:
            for e in (CLEAR, revealing(3)):
                self.refuse(UnknownName(name), lambda b: b.replace(name, e))
        for states in (1, 3, 4):
            self.refuse(Mismatch(), lambda b: b.replace("dim", revealing(states)))

    def test_garble(self):
        g = Garbling(6, [[5, 1], [1, 5]])
        self.change(lambda b: b.garble("clear", g), {"clear": DIM, "sure": SURE, "dim": DIM})
        self.change(lambda b: b.garble(g=unchanged(2), name="dim"), {"clear": CLEAR, "sure": SURE, "dim": DIM})
        self.change(lambda b: b.garble("sure", merging([[0, 1]], 2)),
                    {"clear": CLEAR, "sure": uninformative(2), "dim": DIM})
        for name in ["gone", *NO_NAMES, *NO_STRINGS]:
            for wrong in (g, unchanged(3)):
                self.refuse(UnknownName(name), lambda b: b.garble(name, wrong))
        for signals in (1, 3, 6):
            self.refuse(Mismatch(), lambda b: b.garble("clear", unchanged(signals)))

    def test_combine(self):
        self.change(lambda b: b.combine("new", "clear", "sure"),
                    {"clear": CLEAR, "sure": SURE, "dim": DIM, "new": both(CLEAR, SURE)})
        self.change(lambda b: b.combine(other="dim", one="dim", new="gone"),
                    {"clear": CLEAR, "sure": SURE, "dim": DIM, "gone": both(DIM, DIM)})
        for name in ["gone", *NO_NAMES, *NO_STRINGS]:
            for new in ("new", "dim", "Dim", None):
                self.refuse(UnknownName(name), lambda b: b.combine(new, name, "off"))
                self.refuse(UnknownName(name), lambda b: b.combine(new, "dim", name))
        for new in [*NO_NAMES, *NO_STRINGS]:
            self.refuse(BadName(new), lambda b: b.combine(new, "clear", "dim"))
        for new in ("clear", "dim", "sure"):
            self.refuse(NameTaken(new), lambda b: b.combine(new, "clear", "dim"))

    def test_combine_too_many(self):
        for signals, others, count in [(2, 4, 8), (4, 2, 8), (3, 3, 9), (7, 1, 7), (1, 7, 7), (6, 6, 36), (64, 64, 4096)]:
            bench = Bench(2)
            bench.put("one", Experiment(signals, [[1] * signals] * 2))
            bench.put("other", Experiment(others, [[1] * others] * 2))
            kept = state(bench)
            expect_error(self, TooMany(count), lambda: bench.combine("new", "one", "other"))
            expect_error(self, NameTaken("one"), lambda: bench.combine("one", "one", "other"))
            expect_error(self, BadName("One"), lambda: bench.combine("One", "one", "other"))
            self.assertEqual(state(bench), kept)
        for signals, others in [(2, 3), (3, 2), (6, 1), (1, 6), (1, 1), (2, 2)]:
            bench = Bench(2)
            bench.put("one", Experiment(signals, [[1] * signals] * 2))
            bench.put("other", Experiment(others, [[1] * others] * 2))
            bench.combine("new", "one", "other")
            self.assertEqual(bench["new"].signals, signals * others)

    def test_rename(self):
        self.change(lambda b: b.rename("dim", "zzz"), {"clear": CLEAR, "sure": SURE, "zzz": DIM})
        self.change(lambda b: b.rename(new="gone", name="clear"), {"gone": CLEAR, "sure": SURE, "dim": DIM})
        for name in ["gone", *NO_NAMES, *NO_STRINGS]:
            for new in ("new", "dim", "Dim", None, "gone"):
                self.refuse(UnknownName(name), lambda b: b.rename(name, new))
        for new in [*NO_NAMES, *NO_STRINGS]:
            self.refuse(BadName(new), lambda b: b.rename("dim", new))
        for new in ("clear", "sure", "dim"):
            self.refuse(NameTaken(new), lambda b: b.rename("dim", new))

    def test_drop(self):
        self.change(lambda b: b.drop("dim"), {"clear": CLEAR, "sure": SURE})
        self.change(lambda b: b.drop(name="clear"), {"dim": DIM, "sure": SURE})
        for name in ["gone", "off", *NO_NAMES, *NO_STRINGS]:
            self.refuse(UnknownName(name), lambda b: b.drop(name))

    def test_undo_and_redo(self):
        bench = Bench(2)
        expect_error(self, NothingToUndo(), bench.undo)
        expect_error(self, NothingToRedo(), bench.redo)
        bench.put("a", CLEAR)
        self.assertEqual([bench.undos, bench.redos], [1, 0])
        expect_error(self, NothingToRedo(), bench.redo)
        self.assertIsNone(bench.undo())
        self.assertEqual(state(bench), ({}, 0, 1))
        expect_error(self, NothingToUndo(), bench.undo)
        self.assertEqual(state(bench), ({}, 0, 1))
        self.assertIsNone(bench.redo())
        self.assertEqual(state(bench), ({"a": CLEAR.rows()}, 1, 0))
        expect_error(self, NothingToRedo(), bench.redo)
        bench.undo()
        bench.put("b", DIM)
        expect_error(self, NothingToRedo(), bench.redo)
        self.assertEqual(state(bench), ({"b": DIM.rows()}, 1, 0))

    def test_many_deeds_against_a_plain_record(self):
        rng = random.Random(131)
        names = ["a", "b", "c", "dd", "A", ""]
        for _ in range(20):
            bench, record, at = Bench(2), [{}], 0
            for _ in range(120):
                deed, expected = self.some_deed(rng, names, record[at])
                if deed in ("undo", "redo"):
                    step = -1 if deed == "undo" else 1
                    if 0 <= at + step < len(record):
                        at += step
                        self.assertIsNone(getattr(bench, deed)())
                    else:
                        expect_error(self, NothingToUndo() if deed == "undo" else NothingToRedo(), getattr(bench, deed))
                elif isinstance(expected, DeciderError):
                    expect_error(self, expected, lambda: getattr(bench, deed[0])(*deed[1:]))
                else:
                    self.assertIsNone(getattr(bench, deed[0])(*deed[1:]))
                    record = record[:at + 1] + [expected]
                    at += 1
                self.assertEqual({name: bench[name] for name in bench.names()}, record[at])
                self.assertEqual([bench.undos, bench.redos, bench.names(), len(bench)],
                                 [at, len(record) - 1 - at, sorted(record[at]), len(record[at])])
            self.assertEqual(histories(bench), [{name: e.rows() for name, e in shelf.items()} for shelf in record])

    def some_deed(self, rng, names, shelf):
        """A deed with what is on the bench behind it, or the error that it raises."""
        kind = rng.choice(["put", "put", "replace", "garble", "combine", "rename", "drop", "undo", "undo", "redo"])
        name, other, new = [rng.choice(names) for _ in range(3)]
        e = some_experiment(rng, 2 if rng.random() < 0.9 else 3, rng.randint(1, 3))
        bad = BadName(new) if new in ("A", "") else NameTaken(new) if new in shelf else None
        unknown = None if name in shelf else UnknownName(name)
        if kind == "put":
            return ("put", new, e), bad or (Mismatch() if e.states == 3 else {**shelf, new: e})
        if kind == "replace":
            return ("replace", name, e), unknown or (Mismatch() if e.states == 3 else {**shelf, name: e})
        if kind == "garble":
            g = some_garbling(rng, rng.randint(1, 3), rng.randint(1, 3))
            fits = unknown is None and g.before == shelf[name].signals
            return ("garble", name, g), unknown or ({**shelf, name: garbled(shelf[name], g)} if fits else Mismatch())
        if kind == "combine":
            unknown = unknown or (None if other in shelf else UnknownName(other))
            if unknown or bad:
                return ("combine", new, name, other), unknown or bad
            count = shelf[name].signals * shelf[other].signals
            return ("combine", new, name, other), TooMany(count) if count > 6 else {
                **shelf, new: both(shelf[name], shelf[other])}
        if kind == "rename":
            return ("rename", name, new), unknown or bad or {
                new if key == name else key: e for key, e in shelf.items()}
        if kind == "drop":
            return ("drop", name), unknown or {key: e for key, e in shelf.items() if key != name}
        return kind, None

    def test_very_many_changes(self):
        with in_time(self, 60):
            bench = Bench(2)
            bench.put("a", CLEAR)
            for at in range(3000):
                bench.replace("a", DIM if at % 2 else SURE)
            self.assertEqual(bench.undos, 3001)
            for _ in range(3001):
                bench.undo()
            self.assertEqual(state(bench), ({}, 0, 3001))
            for _ in range(2):
                bench.redo()
            self.assertEqual(bench["a"], SURE)


class Answers(unittest.TestCase):

    def check(self, bench):
        """All answers of a bench, in any order, against the functions for its experiments."""
        names = bench.names()
        shelf = {name: bench[name] for name in names}
        kept = state(bench)
        words = {(one, other): order(shelf[one], shelf[other]) for one in names for other in names}
        leaders = [names[index] for index in best_of([shelf[name] for name in names])]
        table = {pair: word for pair, word in words.items() if pair[0] != pair[1]}
        self.assertEqual([bench.table(), bench.leaders(), bench.table()], [table, leaders, table])
        for one, other in words:
            word = bench.order(one, other)
            self.assertEqual([word, bench.order(other, one)], [words[one, other], BACK[word]])
            paper = bench.paper(one, other)
            if word in ("alike", "better"):
                self.assertIs(type(paper), Garbling)
                self.assertTrue(makes(shelf[one], paper, shelf[other]))
            else:
                self.assertIs(type(paper), Decision)
                self.assertLess(worth(paper, shelf[one]), worth(paper, shelf[other]))
            self.assertEqual(bench.paper(one, other), paper)
        self.assertEqual(state(bench), kept)
        return words

    def test_plain_ones(self):
        bench = some_bench()
        words = self.check(bench)
        self.assertEqual([words["clear", "dim"], words["dim", "sure"], words["sure", "clear"], words["dim", "dim"]],
                         ["better", "worse", "apart", "alike"])
        self.assertEqual(bench.leaders(), ["clear", "sure"])
        self.assertEqual(bench.table(), {("clear", "dim"): "better", ("dim", "clear"): "worse", ("sure", "dim"): "better",
                                         ("dim", "sure"): "worse", ("clear", "sure"): "apart", ("sure", "clear"): "apart"})
        self.assertEqual(bench.order(other="dim", one="clear"), "better")
        self.assertEqual(bench.paper(other="dim", one="clear"), bench.paper("clear", "dim"))

    def test_behind_each_kind_of_change(self):
        bench = some_bench()
        for deed in [lambda b: b.put("all", revealing(2)), lambda b: b.replace("dim", garbled(SURE, renaming([1, 0]))),
                     lambda b: b.garble("all", merging([[0, 1]], 2)), lambda b: b.combine("two", "clear", "sure"),
                     lambda b: b.rename("two", "aaa"), lambda b: b.drop("aaa"), lambda b: b.undo(), lambda b: b.undo(),
                     lambda b: b.redo(), lambda b: b.drop("clear"), lambda b: b.undo()]:
            deed(bench)
            self.check(bench)
        while bench.undos:
            bench.undo()
            self.check(bench)
        while bench.redos:
            bench.redo()
            self.check(bench)

    def test_unknown_names(self):
        bench = some_bench()
        for name in ["gone", *NO_NAMES, *NO_STRINGS]:
            for deed in (bench.order, bench.paper):
                expect_error(self, UnknownName(name), lambda: deed(name, "off"))
                expect_error(self, UnknownName(name), lambda: deed("dim", name))
                expect_error(self, UnknownName(name), lambda: deed(name, "dim"))

    def test_as_one_that_is_made_anew(self):
        rng = random.Random(136)
        for states in (1, 2, 3, 4):
            bench = Bench(states)
            for name in ("a", "b", "c", "d"):
                bench.put(name, some_experiment(rng, states, rng.randint(1, 3)))
            for _ in range(15):
                kind, name, new = rng.randrange(6), rng.choice(bench.names()), rng.choice("efgh")
                if kind == 0:
                    bench.garble(name, some_garbling(rng, bench[name].signals, rng.randint(1, 3)))
                elif kind == 1:
                    bench.replace(name, some_experiment(rng, states, rng.randint(1, 3)))
                elif kind == 2 and new not in bench:
                    bench.rename(name, new)
                elif kind == 3 and bench.undos > 4:
                    bench.undo()
                elif kind == 4 and bench.redos:
                    bench.redo()
                else:
                    with bench.trial():
                        bench.drop(name)
                        bench.undo()
                        bench.undo()
            anew = Bench(states)
            for name in reversed(bench.names()):
                anew.put(name, Experiment(bench[name].unit, bench[name].rows()))
            self.assertEqual([bench.names(), bench.states, len(bench)], [anew.names(), anew.states, len(anew)])
            self.assertEqual(self.check(bench), self.check(anew))
            self.assertEqual([bench[name] for name in bench.names()], [anew[name] for name in anew.names()])
            pairs = [(one, other) for one in bench.names() for other in bench.names()]
            self.assertEqual([bench.paper(*pair) for pair in pairs], [anew.paper(*pair) for pair in pairs])

    def test_as_large_as_callers_may_pass_them(self):
        rng = random.Random(137)
        with in_time(self, 60):
            bench = Bench(4)
            bench.put("all", Experiment(1000, [parts(rng, 1000, 6, 0.1) for _ in range(4)]))
            for name in ("a", "b", "c"):
                bench.put(name, garbled(bench["all"], Garbling(1000, [parts(rng, 1000, 6, 0.1) for _ in range(6)])))
            bench.put("other", Experiment(1000, [parts(rng, 1000, 6, 0.1) for _ in range(4)]))
            self.check(bench)


class Trials(unittest.TestCase):

    def test_a_block_that_ends_well(self):
        bench = some_bench()
        kept, before = state(bench), histories(bench)
        with bench.trial() as same:
            self.assertIs(same, bench)
            bench.drop("dim")
            bench.put("new", FOUR)
            bench.rename("clear", "aaa")
            self.assertEqual([bench.names(), bench.undos, bench.redos], [["aaa", "new", "sure"], 6, 0])
        self.assertEqual([state(bench), histories(bench)], [kept, before])
        bench.redo()
        self.assertEqual([bench["gone"], bench.undos, bench.redos], [DIM, 4, 1])

    def test_a_block_that_ends_by_an_error(self):
        for error in (UnknownName("x"), KeyError("x"), ZeroDivisionError(), KeyboardInterrupt(), StopIteration()):
            bench = some_bench()
            kept, before = state(bench), histories(bench)
            with self.assertRaises(type(error)) as caught:
                with bench.trial():
                    bench.drop("dim")
                    bench.undo()
                    bench.undo()
                    raise error
            self.assertIs(caught.exception, error)
            self.assertEqual([state(bench), histories(bench)], [kept, before])

    def test_undo_and_redo_within_a_trial(self):
        bench = some_bench()
        kept, before = state(bench), histories(bench)
        with bench.trial():
            # What was changed before the trial can be taken back in it, and what was taken back can be done again.
            bench.redo()
            bench.redo()
            self.assertEqual([bench.undos, bench.redos, bench["off"]], [5, 0, CLEAR])
            for _ in range(5):
                bench.undo()
            self.assertEqual([bench.undos, bench.redos, bench.names()], [0, 5, []])
            bench.put("new", FOUR)
            self.assertEqual([bench.undos, bench.redos, bench.names()], [1, 0, ["new"]])
        self.assertEqual([state(bench), histories(bench)], [kept, before])
        with bench.trial():
            pass
        self.assertEqual([state(bench), histories(bench)], [kept, before])

    def test_the_block_counts_and_not_the_call(self):
        bench = some_bench()
        trial = bench.trial()
        bench.put("new", FOUR)
        kept, before = state(bench), histories(bench)
        with trial as same:
            same.drop("new")
            same.drop("dim")
        self.assertEqual([state(bench), histories(bench)], [kept, before])
        self.assertIn("new", bench)

    def test_nested_trials(self):
        bench = some_bench()
        outer = state(bench)
        with bench.trial():
            bench.drop("dim")
            middle = state(bench)
            with bench.trial() as same:
                same.drop("clear")
                inner = state(bench)
                try:
                    with bench.trial():
                        bench.undo()
                        bench.put("new", FOUR)
                        bench.drop("nobody")
                except UnknownName:
                    pass
                self.assertEqual(state(bench), inner)
            self.assertEqual(state(bench), middle)
            bench.put("new", FOUR)
        self.assertEqual(state(bench), outer)
        with bench.trial(), bench.trial():
            bench.drop("dim")
        self.assertEqual(state(bench), outer)

    def test_tried(self):
        bench = some_bench()
        kept, before = state(bench), histories(bench)
        self.assertEqual(bench.tried(["dim", "sure"], lambda b: (b.names(), b.undos, b.redos)), (["dim", "sure"], 4, 0))
        self.assertEqual(bench.tried(("dim",), lambda b: (b.names(), b.undos, b.redos)), (["dim"], 5, 0))
        self.assertEqual(bench.tried([], lambda b: (b.names(), len(b), b.undos)), ([], 0, 6))
        # No drop, so nothing is changed.
        self.assertEqual(bench.tried(["dim", "sure", "clear", "dim"], lambda b: (len(b), b.undos, b.redos)), (3, 3, 2))
        self.assertEqual(bench.tried(deed=lambda b: b.leaders(), names=["dim"]), ["dim"])
        self.assertIs(bench.tried(["dim"], lambda b: b), bench)
        self.assertIsNone(bench.tried(["dim"], lambda b: b.drop("dim")))
        self.assertEqual([state(bench), histories(bench)], [kept, before])

    def test_tried_with_undo(self):
        bench = some_bench()
        kept = state(bench)

        def back(b):
            b.undo()
            b.undo()
            return (b.names(), b.undos, b.redos)

        self.assertEqual(bench.tried(["dim"], back), (["clear", "dim", "sure"], 3, 2))
        self.assertEqual(state(bench), kept)

    def test_tried_with_unknown_names(self):
        bench = some_bench()
        kept, before = state(bench), histories(bench)
        asked = []
        for name in ["gone", *NO_NAMES, *NO_STRINGS]:
            for names in ([name], ["dim", name], [name, "nobody"], ("dim", "clear", name)):
                expect_error(self, UnknownName(name), lambda: bench.tried(names, asked.append))
        self.assertEqual([asked, state(bench), histories(bench)], [[], kept, before])

    def test_tried_with_a_deed_that_raises(self):
        bench = some_bench()
        kept, before = state(bench), histories(bench)
        expect_error(self, UnknownName("clear"), lambda: bench.tried(["dim"], lambda b: b.order("dim", "clear")))
        expect_error(self, NothingToRedo(), lambda: bench.tried(["dim"], lambda b: b.redo()))
        with self.assertRaises(ZeroDivisionError):
            bench.tried(["dim"], lambda b: 1 // 0)
        self.assertEqual([state(bench), histories(bench)], [kept, before])

    def test_tried_within_tried(self):
        bench = some_bench()
        kept = state(bench)
        names = ["dim", "clear"]
        self.assertEqual(bench.tried(names, lambda b: [b.tried(["dim"], lambda c: c.leaders()), b.leaders()]),
                         [["dim"], ["clear"]])
        self.assertEqual([state(bench), names], [kept, ["dim", "clear"]])


if __name__ == "__main__":
    unittest.main()
