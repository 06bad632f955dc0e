"""Points [6] to [8] and [61] to [64]: experiments compared for all deciders."""

import random
import time
import unittest
from fractions import Fraction

from everydecider import comparing, experiments, garblings
from everydecider.comparing import (best_of, decision_against, garbling_from, groups_alike, never_worse, order,
                                    shows_never_worse, shows_worse)
from everydecider.decisions import Decision, value
from everydecider.errors import Mismatch
from everydecider.experiments import Experiment, revealing, uninformative
from everydecider.garblings import Garbling, garbled, merging, renaming, unchanged
from tests.examples import expect_error, run_examples
from tests.pairs import BACK, CLEAR, DIM, SURE, WORDS, alike_with, altered, makes, some_pairs, worth
from tests.values import all_lists, parts, some_experiment, some_garbling

EXAMPLES = """
    >>> e = Experiment(4, [[3, 1], [1, 3]])
    >>> f = Experiment(3, [[2, 1], [1, 2]])
    >>> h = Experiment(2, [[2, 0], [1, 1]])
    >>> [order(e, f), order(f, e), order(e, h), order(f, f), garbled(e, garbling_from(e, f)) == f, garbling_from(f, e)]
    ['better', 'worse', 'apart', 'alike', True, None]
    >>> d = decision_against(e, h)
    >>> [shows_worse(e, h, d), decision_against(e, f), best_of([f, e, h, e]), groups_alike([f, e, h, e])]
    [True, None, [1, 2, 3], [[0], [1, 3], [2]]]
"""
def never_worse_with_two_states(one, other):
    """With two states an experiment is never worse if it is never worse for two acts, one of them with
    the payoffs 0: it is enough to look at those that are equally good at one of the signals."""
    def mean(e, first, second):
        return sum(Fraction(max(0, first * x + second * y), e.unit) for x, y in zip(*e.rows()))

    for e in (one, other):
        for x, y in zip(*e.rows()):
            for first, second in ((y, -x), (-y, x)):
                if mean(one, first, second) < mean(other, first, second):
                    return False
    return True


class Examples(unittest.TestCase):

    def test_examples(self):
        run_examples(self, EXAMPLES, {**vars(experiments), **vars(garblings), **vars(comparing)})


class Papers(unittest.TestCase):

    def check(self, one, other):
        """Whether one experiment is never worse, with the evidence for it looked at."""
        kept = [one.rows(), other.rows()]
        garbling, decision = garbling_from(one, other), decision_against(one, other)
        self.assertIs(garbling is None, decision is not None, kept)
        self.assertIs(never_worse(one, other), decision is None)
        if decision is None:
            self.assertIs(type(garbling), Garbling)
            self.assertTrue(makes(one, garbling, other), kept)
            self.assertEqual(garbled(one, garbling), other)
            self.assertIs(shows_never_worse(one, other, garbling), True)
            self.assertEqual(garbling_from(one, other), garbling)
        else:
            self.assertIs(type(decision), Decision)
            self.assertEqual(decision.states, one.states)
            self.assertLess(worth(decision, one), worth(decision, other), kept)
            self.assertIs(shows_worse(one, other, decision), True)
            self.assertIs(shows_worse(other, one, decision), False)
            self.assertEqual(decision_against(one, other), decision)
        self.assertEqual([one.rows(), other.rows()], kept)
        return decision is None

    def word(self, one, other):
        forth, back = self.check(one, other), self.check(other, one)
        word = WORDS[forth, back]
        self.assertEqual([order(one, other), order(other, one)], [word, BACK[word]])
        return word

    def test_all_four_orders(self):
        three = Experiment(4, [[2, 1, 1], [0, 3, 1], [1, 1, 2]])
        cases = [
            (CLEAR, DIM, "better"), (DIM, CLEAR, "worse"), (CLEAR, SURE, "apart"), (CLEAR, CLEAR, "alike"),
            (revealing(2), CLEAR, "better"), (uninformative(2), CLEAR, "worse"), (DIM, SURE, "worse"),
            (CLEAR, Experiment(8, [[0, 2, 3, 3], [0, 6, 1, 1]]), "alike"),
            (uninformative(3), Experiment(5, [[2, 0, 3]] * 3), "alike"),
            (uninformative(1), Experiment(7, [[1, 2, 4]]), "alike"),
            (Experiment(7, [[0, 7]]), Experiment(2, [[1, 0, 0, 0, 0, 1]]), "alike"),
            (three, garbled(three, merging([[0, 2], [1]], 3)), "better"),
            (Experiment(2, [[1, 1, 0], [0, 1, 1], [1, 0, 1]]), Experiment(2, [[2, 0], [0, 2], [1, 1]]), "apart"),
            (revealing(4), Experiment(6, [[1] * 6, [6] + [0] * 5, [0, 0, 2, 2, 2, 0], [3, 0, 0, 0, 0, 3]]), "better"),
            (Experiment(2, [[1, 1, 0, 0], [1, 0, 1, 0], [0, 1, 0, 1], [0, 0, 1, 1]]), revealing(4), "worse"),
        ]
        for one, other, word in cases:
            with self.subTest(one=one.rows(), other=other.rows()):
                self.assertEqual(self.word(one, other), word)

    def test_many_pairs(self):
        words = {}
        for one, other in some_pairs(61, 500):
            word = self.word(one, other)
            words[one.states, word] = words.get((one.states, word), 0) + 1
        self.assertEqual([word for states, word in words if states == 1], ["alike"])
        for states in (2, 3, 4):
            for word in ("alike", "better", "apart"):
                self.assertGreater(words.get((states, word), 0), 3, (states, word))

    def test_two_states_against_another_way(self):
        rng = random.Random(62)
        words = {}
        for _ in range(400):
            one, other = [some_experiment(rng, 2, rng.randint(1, 4)) for _ in range(2)]
            if rng.random() < 0.4:
                other = garbled(one, some_garbling(rng, one.signals, rng.randint(1, 4)))
            word = self.word(one, other)
            expected = (never_worse_with_two_states(one, other), never_worse_with_two_states(other, one))
            self.assertEqual((word in ("alike", "better"), word in ("alike", "worse")), expected)
            words[word] = words.get(word, 0) + 1
        self.assertEqual(sorted(words), ["alike", "apart", "better", "worse"])

    def test_just_enough_and_just_not_enough(self):
        # The second experiment shows the state with the probability k / 100 and otherwise nothing.
        one = Experiment(2, [[1, 0, 0, 1], [0, 1, 0, 1], [0, 0, 1, 1]])
        for part in (0, 1, 49, 50, 51, 99, 100):
            other = Experiment(100, [[part * (state == signal) for signal in range(3)] + [100 - part]
                                     for state in range(3)])
            self.assertIs(self.check(one, other), part <= 50)
            self.assertIs(self.check(other, one), part >= 50)

    def test_signals_with_the_probability_0(self):
        empty = Experiment(2, [[0, 2, 0, 0], [0, 1, 0, 1]])
        for one, other, right in [(empty, SURE, True), (SURE, empty, True),
                                  (empty, CLEAR, False), (CLEAR, empty, False)]:
            self.assertIs(self.check(one, other), right)
        self.assertEqual(garbling_from(empty, SURE).before, 4)
        self.assertEqual(garbling_from(SURE, empty).after, 4)

    def test_what_the_package_returned_is_passed_in_again(self):
        rng = random.Random(63)
        for states in (2, 3, 4):
            e = some_experiment(rng, states, 6, 0)
            f = garbled(e, Garbling(1000, [parts(rng, 1000, 6, 0) for _ in range(6)]))
            h = garbled(f, garbling_from(e, f))
            self.assertGreater(h.unit, 10 ** 5)
            self.assertIn(self.word(f, h), ("better", "alike"))
            for other in (e, f, h):
                self.assertIn(self.word(revealing(states), other), ("better", "alike"))

    def test_as_large_as_callers_may_pass_them(self):
        rng = random.Random(64)
        start = time.perf_counter()
        for _ in range(5):
            e, f = [Experiment(1000, [parts(rng, 1000, 6, 0.1) for _ in range(4)]) for _ in range(2)]
            self.word(e, f)
            self.word(e, garbled(e, Garbling(1000, [parts(rng, 1000, 6, 0.1) for _ in range(6)])))
            self.word(e, garbled(e, renaming([5, 3, 1, 0, 2, 4])))
        # Many times what is needed.
        self.assertLess(time.perf_counter() - start, 60)

    def test_mismatch(self):
        g, d = unchanged(1), Decision([[1, 2]], [1, 1])
        for one, other in [(1, 2), (2, 1), (2, 3), (4, 3), (1, 4)]:
            pair = (uninformative(one), uninformative(other))
            for deed in (garbling_from, decision_against, never_worse, order):
                expect_error(self, Mismatch(), lambda: deed(*pair))
            expect_error(self, Mismatch(), lambda: shows_never_worse(*pair, g))
            expect_error(self, Mismatch(), lambda: shows_worse(*pair, d))

    def test_arguments_by_name(self):
        self.assertEqual(order(other=DIM, one=CLEAR), "better")
        self.assertIs(never_worse(other=DIM, one=CLEAR), True)
        self.assertIs(shows_never_worse(garbling=garbling_from(other=DIM, one=CLEAR), other=DIM, one=CLEAR), True)
        self.assertIs(shows_worse(decision=decision_against(other=CLEAR, one=DIM), other=CLEAR, one=DIM), True)
        self.assertIsNone(garbling_from(other=CLEAR, one=DIM))
        self.assertIsNone(decision_against(other=DIM, one=CLEAR))


class JudgingPapers(unittest.TestCase):

    def test_shows_never_worse(self):
        right = Garbling(6, [[5, 1], [1, 5]])
        self.assertIs(shows_never_worse(CLEAR, DIM, right), True)
        self.assertIs(shows_never_worse(DIM, CLEAR, right), False)
        for wrong in [Garbling(6, [[1, 5], [5, 1]]), Garbling(6, [[5, 1], [2, 4]]), unchanged(2), renaming([1, 0]),
                      unchanged(1), unchanged(3), Garbling(6, [[5, 1, 0], [1, 5, 0]]), Garbling(6, [[5, 1]]),
                      Garbling(6, [[5, 1], [1, 5], [5, 1]]), Garbling(1, [[1], [1]])]:
            self.assertIs(shows_never_worse(CLEAR, DIM, wrong), False)

    def test_garblings_with_one_integer_otherwise(self):
        verdicts = {True: 0, False: 0}
        for one, other in some_pairs(65, 200, 3):
            garbling = garbling_from(one, other)
            for wrong in altered(garbling) if garbling is not None else ():
                verdict = shows_never_worse(one, other, wrong)
                self.assertIs(verdict, makes(one, wrong, other))
                verdicts[verdict] += 1
        self.assertGreater(min(verdicts.values()), 20)

    def test_more_signals_than_in_the_other_functions(self):
        many = Experiment(64, [[1] * 64, [2] * 32 + [0] * 32])
        self.assertIs(shows_never_worse(many, many, unchanged(64)), True)
        self.assertIs(shows_never_worse(many, SURE, merging([list(range(64))], 64)), False)
        halves = merging([list(range(32)), list(range(32, 64))], 64)
        self.assertIs(shows_never_worse(many, Experiment(2, [[1, 1], [2, 0]]), halves), True)
        self.assertIs(shows_worse(many, revealing(2), Decision([[1, 0], [0, 1]], [1, 1])), True)

    def test_shows_worse(self):
        guess = Decision([[1, 0], [0, 1]], [1, 1])
        self.assertIs(shows_worse(DIM, CLEAR, guess), True)
        # In the other direction, equal values, another number of states, no difference.
        self.assertIs(shows_worse(CLEAR, DIM, guess), False)
        self.assertIs(shows_worse(CLEAR, CLEAR, guess), False)
        # CLEAR and SURE have the same value here: 3 / 4.
        self.assertIs(shows_worse(CLEAR, SURE, guess), False)
        self.assertIs(shows_worse(SURE, CLEAR, guess), False)
        self.assertIs(shows_worse(DIM, CLEAR, Decision([[1, 0]], [1, 1])), False)
        self.assertIs(shows_worse(DIM, CLEAR, Decision([[1, 0], [0, 1]], [9, 1])), False)
        for states in (1, 3, 4):
            self.assertIs(shows_worse(DIM, CLEAR, Decision([[1] * states, [0] * states], [1] * states)), False)

    def test_decisions_with_one_integer_otherwise(self):
        rng = random.Random(66)
        verdicts = {True: 0, False: 0}
        for one, other in some_pairs(67, 200, 3):
            decision = decision_against(one, other)
            if decision is None:
                continue
            for act in range(decision.acts):
                for state in range(decision.states):
                    payoffs, prior = decision.payoffs(), decision.prior()
                    payoffs[act][state] += rng.choice([-1, 1, 2, -payoffs[act][state], 99])
                    prior[state] += rng.choice([1, 2, 30])
                    for wrong in (Decision(payoffs, decision.prior()), Decision(decision.payoffs(), prior)):
                        verdict = shows_worse(one, other, wrong)
                        self.assertIs(verdict, worth(wrong, one) < worth(wrong, other))
                        verdicts[verdict] += 1
        self.assertGreater(min(verdicts.values()), 50)

    def test_a_paper_for_one_pair_says_nothing_of_another_pair(self):
        d = decision_against(CLEAR, SURE)
        self.assertEqual([shows_worse(CLEAR, SURE, d), shows_worse(SURE, CLEAR, d), shows_worse(SURE, SURE, d)],
                         [True, False, False])
        self.assertLess(Fraction(*value(d, CLEAR)), Fraction(*value(d, SURE)))


class Several(unittest.TestCase):

    def test_empty_lists(self):
        for experiments_list in ([], ()):
            self.assertEqual([best_of(experiments_list), groups_alike(experiments_list)], [[], []])

    def test_best_of(self):
        same = Experiment(8, [[3, 2, 3], [1, 6, 1]])
        cases = [
            ([DIM], [0]), ([DIM, CLEAR], [1]), ([CLEAR, DIM], [0]), ([CLEAR, SURE], [0, 1]), ([CLEAR, CLEAR], [0, 1]),
            ([DIM, CLEAR, SURE, CLEAR], [1, 2, 3]), ([CLEAR, SURE, revealing(2)], [2]),
            ([uninformative(2)] * 3, [0, 1, 2]),
            ([uninformative(2), DIM, CLEAR, revealing(2), CLEAR, revealing(2)], [3, 5]), ([same, DIM, CLEAR], [0, 2]),
            ([revealing(3)], [0]), ([uninformative(1), Experiment(2, [[1, 1]])], [0, 1]),
        ]
        for several, indices in cases:
            self.assertEqual(best_of(several), indices)
            self.assertEqual(best_of(tuple(several)), indices)

    def test_groups_alike(self):
        same = Experiment(8, [[3, 2, 3], [1, 6, 1]])
        cases = [
            ([DIM], [[0]]), ([DIM, CLEAR], [[0], [1]]), ([CLEAR, SURE], [[0], [1]]), ([CLEAR, CLEAR], [[0, 1]]),
            ([DIM, CLEAR, SURE, same], [[0], [1, 3], [2]]), ([same, DIM, CLEAR, DIM, same], [[0, 2, 4], [1, 3]]),
            ([uninformative(2), Experiment(3, [[1, 2]] * 2), SURE], [[0, 1], [2]]),
            ([SURE, CLEAR, same, SURE, DIM, SURE], [[0, 3, 5], [1, 2], [4]]),
            ([uninformative(1), Experiment(2, [[1, 1]])], [[0, 1]]),
        ]
        for several, groups in cases:
            self.assertEqual(groups_alike(several), groups)
            self.assertEqual(groups_alike(tuple(several)), groups)

    def test_against_the_order_of_each_pair(self):
        rng = random.Random(68)
        for _ in range(40):
            states = rng.randint(1, 4)
            several = [some_experiment(rng, states, rng.randint(1, 3)) for _ in range(3)]
            several += [alike_with(rng, several[0]), garbled(several[1], some_garbling(rng, several[1].signals, 2))]
            rng.shuffle(several)
            words = [[order(one, other) for other in several] for one in several]
            self.assertEqual(best_of(several), [at for at in range(5) if "worse" not in words[at]])
            groups = sorted({tuple(at for at in range(5) if words[one][at] == "alike") for one in range(5)})
            self.assertEqual(groups_alike(several), [list(group) for group in groups])

    def test_mismatch(self):
        two, three = uninformative(2), uninformative(3)
        for several in ([two, three], [three, two], [two, two, three], [two, three, two], [three, two, two],
                        [revealing(4), revealing(3)]):
            for deed in (best_of, groups_alike):
                expect_error(self, Mismatch(), lambda: deed(several))
                expect_error(self, Mismatch(), lambda: deed(tuple(several)))

    def test_lists_stay_and_are_new(self):
        several = [DIM, CLEAR, SURE, CLEAR]
        best, groups = best_of(experiments=several), groups_alike(experiments=several)
        self.assertTrue(all(one is other for one, other in zip(several, [DIM, CLEAR, SURE, CLEAR], strict=True)))
        self.assertEqual(all_lists([best, groups]), [[int] * 3, [[int], [int, int], [int]]])
        best.append(9)
        groups[0].append(9)
        groups.append([])
        self.assertEqual([best_of(several), groups_alike(several)], [[1, 2, 3], [[0], [1, 3], [2]]])


if __name__ == "__main__":
    unittest.main()
