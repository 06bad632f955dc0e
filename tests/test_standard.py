"""Points [7], [8] and [71] to [74]: standard forms."""

import random
import unittest
from fractions import Fraction
from itertools import permutations

from everydecider import experiments, garblings
from everydecider import standard as module
from everydecider.comparing import order
from everydecider.errors import BadWeights, Mismatch, NoSignal
from everydecider.experiments import Experiment, posterior, revealing, uninformative
from everydecider.garblings import Garbling, garbled, renaming
from everydecider.standard import alike, fewest_signals, split, standard, to_standard, without_empty
from tests.examples import expect_error, run_examples
from tests.limits import in_time
from tests.pairs import CLEAR, DIM, SURE, alike_with, makes, some_pairs
from tests.values import BIG, NO_INTEGERS, expect_shares, parts, shares, some_experiment, turned

EXAMPLES = """
    >>> e = Experiment(6, [[1, 3, 2, 0], [1, 1, 4, 0]])
    >>> [standard(e).unit, standard(e).rows(), fewest_signals(e), alike(e, split(e, 2, [1, 0, 2]))]
    [6, [[2, 1, 3], [4, 1, 1]], 3, True]
    >>> there, back = to_standard(e)
    >>> [garbled(e, there) == standard(e), garbled(standard(e), back) == e, split(uninformative(1), 0, [1, 3]).rows(), without_empty(e).signals]
    [True, True, [[1, 3]], 3]
"""
# Three signals that say the same, two that never come, and one more.
WIDE = Experiment(12, [[1, 0, 2, 3, 0, 6], [2, 0, 4, 6, 0, 0], [0, 0, 0, 0, 0, 12]])


def standard_shares(e):
    """Point [71] with fractions: the probabilities of the standard form."""
    sums = {}
    for column in turned(shares(e)):
        if sum(column):
            known = tuple(number / sum(column) for number in column)
            sums[known] = [one + other for one, other in zip(sums.get(known, [0] * e.states), column)]
    return turned([sums[known] for known in sorted(sums)])


def split_shares(e, signal, weights):
    """Point [74] with fractions: the probabilities where a signal is split."""
    whole = sum(weights)
    return [row[:signal] + [row[signal] * Fraction(weight, whole) for weight in weights] + row[signal + 1:]
            for row in shares(e)]


class Examples(unittest.TestCase):

    def test_examples(self):
        run_examples(self, EXAMPLES, {**vars(experiments), **vars(garblings), **vars(module)})


class StandardForms(unittest.TestCase):

    def check(self, e):
        kept = e.rows()
        form = standard(e)
        expect_shares(self, form, standard_shares(e))
        self.assertEqual([standard(form), standard(e)], [form, form])
        self.assertEqual(fewest_signals(e), form.signals)
        self.assertEqual(type(fewest_signals(e)), int)
        known = [[Fraction(*one) for one in posterior(form, [1] * e.states, at)] for at in range(form.signals)]
        self.assertTrue(all(one < other for one, other in zip(known, known[1:])))
        there, back = answer = to_standard(e)
        self.assertEqual([type(answer), type(there), type(back)], [tuple, Garbling, Garbling])
        self.assertTrue(makes(e, there, form), kept)
        self.assertTrue(makes(form, back, e), kept)
        self.assertEqual([garbled(e, there), garbled(form, back)], [form, e])
        self.assertEqual(to_standard(e), answer)
        self.assertEqual(e.rows(), kept)
        return form

    def test_plain_ones(self):
        cases = [
            (uninformative(1), [[1]], 1), (uninformative(4), [[1]] * 4, 1), (CLEAR, [[1, 3], [3, 1]], 4),
            (Experiment(7, [[1, 2, 0, 4]]), [[1]], 1), (Experiment(4, [[2, 1, 1]] * 3), [[1], [1], [1]], 1),
            (SURE, [[0, 2], [1, 1]], 2), (revealing(3), [[0, 0, 1], [0, 1, 0], [1, 0, 0]], 1),
            (WIDE, [[1, 1], [0, 2], [2, 0]], 2),
            # The first different items count: 0 and 1 / 2 at the first state, then 0, 1 / 4 and 1 at the second one.
            (Experiment(8, [[4, 4, 0, 0, 0], [4, 0, 1, 3, 0], [0, 4, 3, 0, 1]]),
             [[0, 0, 0, 4, 4], [0, 1, 3, 0, 4], [1, 3, 0, 4, 0]], 8),
        ]
        for e, rows, unit in cases:
            with self.subTest(e=e.rows()):
                form = self.check(e)
                self.assertEqual([form.rows(), form.unit], [rows, unit])

    def test_one_and_the_same_for_all_orders_of_the_signals(self):
        rng = random.Random(71)
        for e in [WIDE, *[some_experiment(rng, states, 4) for states in (1, 2, 2, 3, 3, 4)]]:
            form = self.check(e)
            for order_of_signals in permutations(range(e.signals)):
                self.assertEqual(standard(garbled(e, renaming(order_of_signals))), form)

    def test_many(self):
        rng = random.Random(72)
        fewer = 0
        for _ in range(300):
            e = some_experiment(rng, rng.randint(1, 4), rng.randint(1, 6), rng.choice([0, 0.3, 0.7]))
            for one in (e, alike_with(rng, e), split(e, 0, [1, 0, 2])):
                fewer += self.check(one).signals < one.signals
        self.assertGreater(fewer, 300)

    def test_alike(self):
        words = {}
        for one, other in some_pairs(73, 300):
            word = order(one, other)
            self.assertIs(alike(one, other), word == "alike")
            self.assertIs(alike(other, one), word == "alike")
            self.assertIs(alike(one, one), True)
            self.assertIs(standard(one) == standard(other), word == "alike")
            # No experiment that is alike has fewer signals than the standard form.
            if word == "alike":
                self.assertEqual(fewest_signals(one), fewest_signals(other))
                self.assertLessEqual(fewest_signals(one), min(one.signals, other.signals))
            words[word] = words.get(word, 0) + 1
        self.assertGreater(min(words.values()), 20)
        self.assertIs(alike(CLEAR, DIM), False)
        self.assertIs(alike(Experiment(4, [[3, 1], [1, 3]]), Experiment(4, [[1, 3], [3, 1]])), True)
        self.assertIs(alike(Experiment(4, [[3, 1], [1, 3]]), Experiment(4, [[3, 1], [3, 1]])), False)

    def test_mismatch(self):
        for one, other in [(1, 2), (2, 1), (2, 3), (4, 3), (1, 4)]:
            expect_error(self, Mismatch(), lambda: alike(uninformative(one), uninformative(other)))
            expect_error(self, Mismatch(), lambda: alike(revealing(one), revealing(other)))

    def test_large_ones(self):
        rng = random.Random(74)
        with in_time(self, 60):
            for unit in (1000, BIG, BIG ** 5):
                many = Experiment(unit, [parts(rng, unit, 64, 0.1) for _ in range(4)])
                self.assertEqual(self.check(many).signals, 64)
                self.check(split(many, 63, [1, 2, 0, 3, 4, 5]))
                self.check(Experiment(unit, [[1] * 64 + [unit - 64]] * 4))

    def test_arguments_by_name(self):
        self.assertEqual(standard(e=CLEAR), standard(CLEAR))
        self.assertIs(alike(other=DIM, one=CLEAR), False)
        self.assertEqual([fewest_signals(e=CLEAR), to_standard(e=CLEAR)], [2, to_standard(CLEAR)])


class Splitting(unittest.TestCase):

    def check(self, e, signal, weights):
        kept = (e.rows(), list(weights))
        answer = split(e, signal, weights)
        expect_shares(self, answer, split_shares(e, signal, weights))
        self.assertEqual(split(e, signal, tuple(weights)), answer)
        self.assertIs(alike(answer, e), True)
        self.assertEqual(order(answer, e), "alike")
        self.assertEqual((e.rows(), weights), kept)
        return answer

    def test_plain_ones(self):
        cases = [
            (0, [1], [[3, 1], [1, 3]]), (1, [5], [[3, 1], [1, 3]]), (0, [0, 1], [[0, 3, 1], [0, 1, 3]]),
            (1, [3, 0], [[3, 1, 0], [1, 3, 0]]), (0, [1, 2], [[3, 6, 3], [1, 2, 9]]),
            (1, [2, 1, 0], [[9, 2, 1, 0], [3, 6, 3, 0]]), (1, [2, 2], [[6, 1, 1], [2, 3, 3]]),
            (0, [0, 0, 1000, 0], [[0, 0, 3, 0, 1], [0, 0, 1, 0, 3]]),
        ]
        for signal, weights, rows in cases:
            self.assertEqual(self.check(CLEAR, signal, weights).rows(), rows)
        self.assertEqual(split(uninformative(2), 0, [1, 3]).rows(), [[1, 3], [1, 3]])
        self.assertEqual(split(Experiment(1, [[1, 0], [1, 0]]), 1, [1, 3]).rows(), [[1, 0, 0], [1, 0, 0]])

    def test_many(self):
        rng = random.Random(75)
        for _ in range(300):
            e = some_experiment(rng, rng.randint(1, 4), rng.randint(1, 4))
            weights = [rng.choice([0, 0, 1, 2, 3, 1000]) for _ in range(rng.randint(1, 6))]
            weights[rng.randrange(len(weights))] = rng.randint(1, 1000)
            self.check(e, rng.randrange(e.signals), weights)

    def test_no_signal(self):
        for signal in [-1, 2, 64, -BIG, BIG, *NO_INTEGERS]:
            expect_error(self, NoSignal(signal), lambda: split(CLEAR, signal, [1, 2]))
        expect_error(self, NoSignal(1), lambda: split(uninformative(3), 1, [1]))

    def test_bad_weights(self):
        for weights in [[], (), [0], [0, 0, 0], [-1], [1, -1], [-1, 2], [2, -BIG], (0, 0)]:
            expect_error(self, BadWeights(), lambda: split(CLEAR, 0, weights))
        for wrong in NO_INTEGERS:
            for weights in ([wrong], [1, wrong], [wrong, 1], (1, wrong, 1)):
                expect_error(self, BadWeights(), lambda: split(CLEAR, 1, weights))
        for weights in (None, 1, True, "1", {1: 1}):
            expect_error(self, BadWeights(), lambda: split(CLEAR, 1, weights))

    def test_order_of_the_errors(self):
        expect_error(self, NoSignal(2), lambda: split(CLEAR, 2, []))
        expect_error(self, NoSignal(True), lambda: split(CLEAR, True, [-1]))

    def test_without_empty(self):
        cases = [
            (Experiment(6, [[1, 3, 2, 0], [1, 1, 4, 0]]), [[1, 3, 2], [1, 1, 4]]),
            (Experiment(4, [[0, 3, 1, 0], [0, 1, 3, 0]]), [[3, 1], [1, 3]]), (CLEAR, [[3, 1], [1, 3]]),
            (Experiment(1, [[0, 1]]), [[1]]), (SURE, [[2, 0], [1, 1]]), (uninformative(4), [[1]] * 4),
            # Signals that say the same stay as they are.
            (WIDE, [[1, 2, 3, 6], [2, 4, 6, 0], [0, 0, 0, 12]]),
        ]
        for e, rows in cases:
            kept = e.rows()
            answer = without_empty(e=e)
            expect_shares(self, answer, [[Fraction(number, e.unit) for number in row] for row in rows])
            self.assertIs(alike(answer, e), True)
            self.assertEqual(e.rows(), kept)
        rng = random.Random(76)
        for _ in range(100):
            e = some_experiment(rng, rng.randint(1, 4), rng.randint(1, 6), 0.7)
            rows = turned([column for column in turned(shares(e)) if sum(column)])
            expect_shares(self, without_empty(e), rows)

    def test_arguments_by_name(self):
        self.assertEqual(split(weights=[1, 2], e=CLEAR, signal=0).rows(), [[3, 6, 3], [1, 2, 9]])


if __name__ == "__main__":
    unittest.main()
