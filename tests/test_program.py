"""Points [7], [8] and [9] over the whole program: how arguments are passed, and what is new on each call."""

import copy
import importlib
import inspect
import unittest

from everydecider import errors
from everydecider.bench import Bench
from everydecider.comparing import decision_against, garbling_from
from everydecider.decisions import Decision
from everydecider.experiments import Experiment, revealing
from everydecider.fewacts import merging_paper
from everydecider.garblings import Garbling, unchanged
from everydecider.twoacts import share_paper
from tests.pairs import CLEAR, DIM, SURE
from tests.values import in_tuples

GUESS = [[1, 0], [0, 1]]
EVEN = Decision(GUESS, [1, 1])
SAME = unchanged(2)
PROGRAM = [[1, 1, 0], [0, 1, 1]]
MIDDLE = [((0, 1), (0, 1)), ((1, 2), (1, 3)), ((1, 1), (1, 1))]
# For each function and class of the interface: its parameters, with arguments for them.
CALLS = {
    "ratios": [
        ("ratio", [("top", 6), ("bottom", -4)]), ("plus", [("one", (1, 2)), ("other", (1, 3))]),
        ("minus", [("one", (1, 2)), ("other", (1, 3))]), ("times", [("one", (1, 2)), ("other", (1, 3))]),
        ("over", [("one", (1, 2)), ("other", (1, 3))]), ("total", [("ratios", [(1, 2), (1, 3)])]),
        ("compare", [("one", (1, 2)), ("other", (1, 3))]), ("common", [("ratios", [(1, 2), (1, 3)])]),
        ("lowest", [("numbers", [4, -6, 0])]), ("ratio_text", [("one", (1, 2))]), ("read_ratio", [("text", "1/2")])],
    "experiments": [
        ("Experiment", [("unit", 8), ("rows", [[6, 2], [2, 6]])]),
        ("probability", [("e", CLEAR), ("prior", [1, 2]), ("signal", 1)]),
        ("posterior", [("e", CLEAR), ("prior", [1, 2]), ("signal", 1)]), ("uninformative", [("states", 2)]),
        ("revealing", [("states", 3)]), ("two_signals", [("unit", 3), ("hits", [3, 1])])],
    "garblings": [
        ("Garbling", [("unit", 6), ("rows", [[5, 1], [1, 5]])]), ("garbled", [("e", SURE), ("g", SAME)]),
        ("unchanged", [("signals", 2)]), ("merging", [("groups", [[2, 0], [1]]), ("signals", 3)]),
        ("renaming", [("order", [2, 0, 1])]), ("is_sharp", [("g", SAME)])],
    "decisions": [
        ("Decision", [("payoffs", [[1, 2], [3, 4]]), ("prior", [2, 4])]), ("value", [("d", EVEN), ("e", CLEAR)]),
        ("gain", [("d", EVEN), ("e", CLEAR), ("rule", [1, 0])]), ("best_acts", [("d", EVEN), ("e", CLEAR)]),
        ("best_rule", [("d", EVEN), ("e", CLEAR)]), ("price", [("d", EVEN), ("e", CLEAR)]),
        ("shifted", [("d", EVEN), ("amounts", [7, -8])]), ("scaled", [("d", EVEN), ("factor", 3)]),
        ("with_prior", [("d", EVEN), ("prior", [4, 6])]), ("without_act", [("d", EVEN), ("act", 1)]),
        ("regrets", [("d", EVEN)])],
    "linear": [
        ("solve", [("rows", PROGRAM), ("totals", [2, 3])]),
        ("is_solved", [("rows", PROGRAM), ("totals", [2, 3]), ("answer", ("amounts", 1, [0, 2, 1]))]),
        ("least", [("rows", PROGRAM), ("totals", [2, 3]), ("costs", [1, 1, 1])]),
        ("is_least", [("rows", PROGRAM), ("totals", [2, 3]), ("costs", [1, 1, 1]),
                      ("answer", ("least", 1, [0, 2, 1], [0, 1]))])],
    "comparing": [
        ("garbling_from", [("one", CLEAR), ("other", DIM)]), ("decision_against", [("one", DIM), ("other", CLEAR)]),
        ("never_worse", [("one", CLEAR), ("other", DIM)]), ("order", [("one", CLEAR), ("other", DIM)]),
        ("shows_never_worse", [("one", CLEAR), ("other", DIM), ("garbling", garbling_from(CLEAR, DIM))]),
        ("shows_worse", [("one", DIM), ("other", CLEAR), ("decision", decision_against(DIM, CLEAR))]),
        ("best_of", [("experiments", [DIM, CLEAR, SURE])]), ("groups_alike", [("experiments", [DIM, CLEAR, DIM])])],
    "standard": [
        ("standard", [("e", CLEAR)]), ("alike", [("one", CLEAR), ("other", DIM)]), ("fewest_signals", [("e", CLEAR)]),
        ("to_standard", [("e", CLEAR)]), ("split", [("e", CLEAR), ("signal", 1), ("weights", [1, 2])]),
        ("without_empty", [("e", CLEAR)])],
    "fewacts": [
        ("partings", [("signals", 3), ("groups", 2)]), ("never_worse_for", [("one", DIM), ("other", CLEAR), ("acts", 1)]),
        ("act_against", [("one", DIM), ("other", CLEAR), ("acts", 2)]),
        ("merging_paper", [("one", CLEAR), ("other", DIM), ("acts", 2)]),
        ("shows_for", [("one", CLEAR), ("other", DIM), ("acts", 2), ("paper", merging_paper(CLEAR, DIM, 2))]),
        ("acts_needed", [("one", DIM), ("other", CLEAR)]), ("order_for", [("one", DIM), ("other", CLEAR), ("acts", 2)]),
        ("best_for", [("experiments", [DIM, CLEAR, SURE]), ("acts", 2)])],
    "polygons": [
        ("corners", [("e", CLEAR)]), ("from_corners", [("points", MIDDLE)]), ("height_at", [("e", SURE), ("x", (1, 3))]),
        ("covers", [("one", CLEAR), ("other", DIM)]), ("meet", [("one", CLEAR), ("other", SURE)]),
        ("join", [("one", CLEAR), ("other", SURE)])],
    "together": [
        ("both", [("one", CLEAR), ("other", SURE)]), ("again", [("e", CLEAR), ("times", 2)]),
        ("one_of", [("experiments", [CLEAR, SURE]), ("weights", [1, 3])]),
        ("blended", [("experiments", [CLEAR, SURE]), ("weights", [1, 3])]), ("at_states", [("e", SURE), ("states", [1, 0, 0])]),
        ("both_garblings", [("one", SAME), ("other", Garbling(3, [[1, 2]]))]), ("side_by_side", [("garblings", [SAME, SAME])])],
    "bends": [
        ("value_at", [("e", CLEAR), ("payoffs", GUESS), ("chance", (1, 3))]), ("bends", [("e", CLEAR), ("payoffs", GUESS)]),
        ("act_stretch", [("e", CLEAR), ("payoffs", GUESS), ("signal", 1), ("act", 0)]),
        ("worse_chance", [("one", DIM), ("other", CLEAR), ("payoffs", GUESS)]), ("groups_for", [("d", EVEN), ("e", CLEAR)]),
        ("groups_for_all", [("decisions", [EVEN, EVEN]), ("e", CLEAR)]), ("prior_for", [("payoffs", GUESS), ("act", 1)]),
        ("mixture_above", [("payoffs", [[2, 0], [0, 2], [0, 0]]), ("act", 2)])],
    "twoacts": [
        ("never_worse_for_two", [("one", CLEAR), ("other", DIM)]), ("two_act_against", [("one", DIM), ("other", CLEAR)]),
        ("share_paper", [("one", CLEAR), ("other", DIM)]),
        ("shows_shares", [("one", CLEAR), ("other", DIM), ("paper", share_paper(CLEAR, DIM))])],
    "bench": [("Bench", [("states", 2)])],
    "notation": [
        ("text_of", [("thing", CLEAR)]), ("read_experiment", [("text", "experiment 2\n1 1")]),
        ("read_garbling", [("text", "garbling 2\n1 1")]), ("read_decision", [("text", "decision 2 1\n1 1")]),
        ("read_bench", [("text", "bench 1\nput a 2\n1 1")]), ("report", [("one", CLEAR), ("other", DIM)])],
}
METHODS = [
    ("put", [("name", "new"), ("e", DIM)]), ("replace", [("name", "sure"), ("e", DIM)]), ("garble", [("name", "clear"), ("g", SAME)]),
    ("combine", [("new", "two"), ("one", "clear"), ("other", "sure")]), ("rename", [("name", "sure"), ("new", "new")]),
    ("drop", [("name", "sure")]), ("order", [("one", "clear"), ("other", "sure")]), ("paper", [("one", "clear"), ("other", "sure")]),
    ("tried", [("names", ["sure"]), ("deed", lambda b: b.names())]), ("names", []), ("undo", []), ("redo", []), ("leaders", []),
    ("table", []), ("trial", []),
]


def plain(value):
    """What can be compared: a bench and a trial by what they hold."""
    if isinstance(value, Bench):
        return (value.states, {name: value[name].rows() for name in value.names()}, value.undos, value.redos)
    return plain(value.__enter__()) if hasattr(value, "__enter__") else value


def spoil(value):
    """Change all lists and dicts of a value, inner ones too."""
    if isinstance(value, (list, tuple)):
        for item in value:
            spoil(item)
    if isinstance(value, dict):
        for item in value.values():
            spoil(item)
    if isinstance(value, (list, dict)):
        value.clear()


def calls():
    for name, several in CALLS.items():
        for word, arguments in several:
            yield word, getattr(importlib.import_module("everydecider." + name), word), dict(arguments)


def some_bench():
    bench = Bench(2)
    for name, e in [("clear", CLEAR), ("sure", SURE), ("gone", SURE)]:
        bench.put(name, e)
    bench.undo()
    return bench


class Arguments(unittest.TestCase):

    def test_names_of_the_parameters(self):
        for word, deed, arguments in calls():
            parameters = inspect.signature(deed).parameters
            self.assertEqual(list(parameters), list(arguments), word)
            defaults = {name: one.default for name, one in parameters.items() if one.default is not one.empty}
            self.assertEqual(defaults, {"bottom": 1} if word == "ratio" else {}, word)
        for word, arguments in METHODS:
            self.assertEqual(list(inspect.signature(getattr(Bench, word)).parameters), ["self", *dict(arguments)], word)
        for word in ("rows", "payoffs", "prior"):
            for one in (Experiment, Garbling, Decision):
                if hasattr(one, word):
                    self.assertEqual(list(inspect.signature(getattr(one, word)).parameters), ["self"])

    def test_errors_by_name(self):
        for word, one in vars(errors).items():
            if isinstance(one, type) and issubclass(one, errors.DeciderError) and "__init__" in vars(one):
                names = list(inspect.signature(one).parameters)
                self.assertEqual(vars(one(**{name: "worth" for name in names})), {name: "worth" for name in names}, word)

    def test_by_position_and_by_name_in_another_order(self):
        for word, deed, arguments in calls():
            with self.subTest(word=word):
                answer = plain(deed(*arguments.values()))
                names = list(arguments)
                for turn in range(len(names)):
                    turned = names[turn:] + names[:turn]
                    self.assertEqual(plain(deed(**{name: arguments[name] for name in turned})), answer)
                    self.assertEqual(plain(deed(**{name: arguments[name] for name in reversed(turned)})), answer)

    def test_methods_by_position_and_by_name_in_another_order(self):
        for word, arguments in METHODS:
            with self.subTest(word=word):
                one, other = some_bench(), some_bench()
                answer = plain(getattr(one, word)(*dict(arguments).values()))
                self.assertEqual(plain(getattr(other, word)(**dict(reversed(arguments)))), answer)
                self.assertEqual(plain(one), plain(other))

    def test_lists_and_tuples(self):
        for word, deed, arguments in calls():
            with self.subTest(word=word):
                answer = plain(deed(**arguments))
                for name in arguments:
                    self.assertEqual(plain(deed(**{**arguments, name: in_tuples(arguments[name])})), answer)
                self.assertEqual(plain(deed(**{name: in_tuples(worth) for name, worth in arguments.items()})), answer)
        self.assertEqual(some_bench().tried(("sure",), lambda b: b.names()), ["sure"])

    def test_arguments_stay_as_they_are(self):
        for word, deed, arguments in calls():
            with self.subTest(word=word):
                kept = copy.deepcopy(arguments)
                deed(**arguments)
                self.assertEqual(arguments, kept)
                # Objects that are passed are the same in all that they hold.
                for name, worth in arguments.items():
                    if isinstance(worth, (Experiment, Garbling, Decision)):
                        self.assertEqual(vars(worth), vars(kept[name]))

    def test_answers_are_new_on_each_call(self):
        for word, deed, arguments in calls():
            with self.subTest(word=word):
                kept = copy.deepcopy(plain(deed(**arguments)))
                spoil(deed(**arguments))
                self.assertEqual(plain(deed(**arguments)), kept)
        for word, arguments in METHODS:
            if word not in ("undo", "redo", "put"):
                with self.subTest(word=word):
                    kept = copy.deepcopy(plain(getattr(some_bench(), word)(**dict(arguments))))
                    bench = some_bench()
                    spoil(getattr(bench, word)(**dict(arguments)))
                    if word in ("order", "paper", "tried", "names", "leaders", "table", "trial"):
                        self.assertEqual(plain(getattr(bench, word)(**dict(arguments))), kept)

    def test_objects_copy_what_they_receive(self):
        rows, payoffs, prior = [[3, 1], [1, 3]], [[5, 6], [7, 8]], [1, 2]
        e, g, d = Experiment(4, rows), Garbling(4, rows), Decision(payoffs, prior)
        for one in (rows, payoffs, [prior]):
            for row in one:
                row[:] = [0, 0, 0]
            one.append([9])
        prior.append(3)
        self.assertEqual([e.rows(), g.rows(), d.payoffs(), d.prior()],
                         [[[3, 1], [1, 3]], [[3, 1], [1, 3]], [[5, 6], [7, 8]], [1, 2]])

    def test_equality_with_values_of_other_kinds(self):
        things = [CLEAR, Garbling(4, [[3, 1], [1, 3]]), Decision([[3, 1], [1, 3]], [1, 1])]
        others = [None, True, 4, "experiment", [[3, 1], [1, 3]], (4, [[3, 1], [1, 3]]), {}, Bench(2)]
        for at, thing in enumerate(things):
            for other in things[:at] + things[at + 1:] + others:
                self.assertIs(thing == other, False)
                self.assertIs(thing != other, True)
            self.assertIs(thing == copy.deepcopy(thing), True)
        self.assertIs(revealing(2) == Experiment(3, [[3, 0], [0, 3]]), True)


if __name__ == "__main__":
    unittest.main()
