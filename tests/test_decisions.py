"""Points [5], [7], [8] and [41] to [44]: decisions."""

import random
import unittest
from fractions import Fraction
from itertools import product

from everydecider import decisions, experiments
from everydecider.decisions import (Decision, best_acts, best_rule, gain, price, regrets, scaled, shifted, value,
                                    with_prior, without_act)
from everydecider.errors import BadPayoffs, BadPrior, BadRule, BadSize, BadTimes, Mismatch, NoAct, NoState
from everydecider.experiments import Experiment, revealing, uninformative
from tests.examples import expect_error, run_examples
from tests.values import BIG, NO_INTEGERS, all_lists, as_ratio, in_tuples, some_experiment

EXAMPLES = """
    >>> e = Experiment(4, [[3, 1], [1, 3]])
    >>> d = Decision([[1, 0], [0, 1]], [2, 2])
    >>> [value(d, e), gain(d, e, [1, 1]), best_acts(d, e), price(d, e), d.prior(), d[1, 0]]
    [(3, 4), (1, 2), [[0], [1]], (1, 4), [1, 1], 0]
    >>> [value(shifted(d, [10, 20]), e), regrets(scaled(d, 3)).payoffs(), best_rule(with_prior(d, [9, 1]), e)]
    [(63, 4), [[0, -3], [-3, 0]], [0, 0]]
    >>> gain(d, e, [0])
    raises BadRule(1)
"""


def gain_of(d, e, rule):
    """The gain of a rule, as point [5] says it."""
    payoffs, prior, rows = d.payoffs(), d.prior(), e.rows()
    return sum((Fraction(prior[state], sum(prior)) * Fraction(rows[state][signal], e.unit) * payoffs[act][state]
                for state in range(e.states) for signal, act in enumerate(rule)), Fraction(0))


def rules(d, e):
    return list(product(range(d.acts), repeat=e.signals))


def some_decision(rng, states, acts, most=1000):
    prior = [rng.choice([0, 1, 1, 2, rng.randint(0, 1000)]) for _ in range(states)]
    prior[rng.randrange(states)] += 1
    return Decision([[rng.randint(-most, most) for _ in range(states)] for _ in range(acts)], prior)


def some_pairs(seed, count, acts=3, signals=4):
    """Decisions and experiments, some of them with many equally good acts."""
    rng = random.Random(seed)
    for _ in range(count):
        states = rng.randint(1, 4)
        yield (some_decision(rng, states, rng.randint(1, acts), rng.choice([1, 2, 1000])),
               some_experiment(rng, states, rng.randint(1, signals)))


class Examples(unittest.TestCase):

    def test_examples(self):
        run_examples(self, EXAMPLES, {**vars(experiments), **vars(decisions)})


class Construction(unittest.TestCase):

    def test_attributes_and_lists(self):
        d = Decision([[5, -3, 0], [2, 4, -6]], [3, 0, 6])
        self.assertEqual([d.acts, d.states], [2, 3])
        self.assertEqual(d.payoffs(), [[5, -3, 0], [2, 4, -6]])
        self.assertEqual(d.prior(), [1, 0, 2])
        self.assertEqual(all_lists([d.payoffs(), d.prior()]), [[[int] * 3] * 2, [int] * 3])

    def test_acts_is_a_property(self):
        self.assertIsInstance(Decision.acts, property)

    def test_all_sizes(self):
        for acts, states in product([1, 2, 3, 4, 5, 6, 7, 100], range(1, 5)):
            d = Decision([[-1000] * states] * acts, [1000] * states)
            self.assertEqual([d.acts, d.states, d.prior()], [acts, states, [1] * states])

    def test_bad_size(self):
        expect_error(self, BadSize(0), lambda: Decision([], [1]))
        expect_error(self, BadSize(0), lambda: Decision((), []))

    def test_bad_payoffs(self):
        cases = [
            (0, [[]]),
            (0, [[], []]),
            (0, [[], [1, 2]]),
            (1, [[1, 2], []]),
            (0, [[1, 2, 3, 4, 5]]),
            (0, [[1, 2, 3, 4, 5], [1, 2]]),
            (1, [[1, 2], [1, 2, 3, 4, 5]]),
            (1, [[1, 2], [1]]),
            (1, [[1, 2], [1, 2, 3]]),
            (2, [[1, 2], [3, 4], [5], [6]]),
            (1, [[1, 2, 3, 4], [1, 2, 3, 4, 5]]),
        ]
        for index, payoffs in cases:
            with self.subTest(payoffs=payoffs):
                expect_error(self, BadPayoffs(index), lambda: Decision(payoffs, [1, 1]))
                expect_error(self, BadPayoffs(index), lambda: Decision(in_tuples(payoffs), (1, 1)))

    def test_payoffs_that_are_no_integers(self):
        for wrong in NO_INTEGERS:
            expect_error(self, BadPayoffs(0), lambda: Decision([[wrong, 0], [1, wrong]], [1, 1]))
            expect_error(self, BadPayoffs(0), lambda: Decision([[0, wrong], [1, 0]], [1, 1]))
            expect_error(self, BadPayoffs(1), lambda: Decision([[0, 0], [1, wrong], []], [1, 1]))
            expect_error(self, BadPayoffs(6), lambda: Decision([[0]] * 6 + [[wrong]], [1]))

    def test_bad_prior(self):
        for prior in [[], [0, 0], [1], [1, 1, 1], [1, 0, 0], [0], [-1, 2], [2, -1], [-1, -1], [-BIG, BIG], None, 1,
                      "11", "", {0: 1, 1: 1}]:
            with self.subTest(prior=prior):
                expect_error(self, BadPrior(), lambda: Decision([[1, 2], [3, 4]], prior))
                expect_error(self, BadPrior(), lambda: Decision([[1, 2], [3, 4]], in_tuples(prior)))
        for wrong in NO_INTEGERS:
            expect_error(self, BadPrior(), lambda: Decision([[1, 2]], [wrong, 1]))
            expect_error(self, BadPrior(), lambda: Decision([[1, 2]], [1, wrong]))

    def test_order_of_the_errors(self):
        expect_error(self, BadSize(0), lambda: Decision([], []))
        expect_error(self, BadPayoffs(1), lambda: Decision([[1, 2], [1]], [0, 0]))
        expect_error(self, BadPayoffs(0), lambda: Decision([[1, None], [1]], None))

    def test_the_prior_is_in_lowest_terms_and_the_payoffs_are_not(self):
        cases = [([2, 2], [1, 1]), ([6, 4], [3, 2]), ([0, 7], [0, 1]), ([1000, 0], [1, 0]), ([3, 5], [3, 5]),
                 ([2 * BIG, 4 * BIG], [1, 2])]
        for prior, lowest in cases:
            d = Decision([[4, 8], [-2, 0]], prior)
            self.assertEqual([d.prior(), d.payoffs()], [lowest, [[4, 8], [-2, 0]]])
        self.assertEqual(Decision([[0]], [1000]).prior(), [1])
        self.assertEqual(Decision([[0, 0, 0, 0]], [6, 10, 15, 0]).prior(), [6, 10, 15, 0])

    def test_arguments_by_name(self):
        self.assertEqual(Decision(prior=[1, 2], payoffs=[[3, 4]]), Decision([[3, 4]], [1, 2]))

    def test_later_changes_of_lists_have_no_effect(self):
        for prior in ([1, 2], [2, 4]):
            first = [5, -3]
            payoffs = [first, [0, 1]]
            d = Decision(payoffs, prior)
            self.assertEqual([payoffs, prior[1] // prior[0]], [[[5, -3], [0, 1]], 2])
            first[0] = 99
            payoffs.append([1, 1])
            prior[0] = 99
            expected = [[[5, -3], [0, 1]], [1, 2], 2, 2, 5]
            self.assertEqual([d.payoffs(), d.prior(), d.acts, d.states, d[0, 0]], expected)
            told = d.payoffs()
            told[0][0] = 99
            told.append([1, 1])
            d.prior()[0] = 99
            d.prior().append(4)
            self.assertEqual([d.payoffs(), d.prior(), d.acts, d.states, d[0, 0]], expected)


class Items(unittest.TestCase):

    def test_payoffs(self):
        d = Decision([[5, -3, 0], [2, 4, -6]], [1, 1, 1])
        self.assertEqual([[d[act, state] for state in range(3)] for act in range(2)], d.payoffs())
        self.assertIs(type(d[0, 1]), int)

    def test_no_act_then_no_state(self):
        d = Decision([[5, -3, 0], [2, 4, -6]], [1, 1, 1])
        for act in [-1, 2, 3, BIG, *NO_INTEGERS]:
            for state in (0, 3, -1, None):
                expect_error(self, NoAct(act), lambda: d[act, state])
        for state in [-1, 3, 4, BIG, *NO_INTEGERS]:
            for act in (0, 1):
                expect_error(self, NoState(state), lambda: d[act, state])

    def test_no_iteration(self):
        with self.assertRaises(TypeError):
            list(Decision([[1]], [1]))


class Equality(unittest.TestCase):

    def test_equal(self):
        d = Decision([[1, 0], [0, 1]], [1, 2])
        self.assertIs(d == d, True)
        self.assertIs(d == Decision(((1, 0), (0, 1)), (500, 1000)), True)
        self.assertIs(d != Decision([[1, 0], [0, 1]], [2, 4]), False)

    def test_not_equal(self):
        d = Decision([[1, 0], [0, 1]], [1, 2])
        for other in [Decision([[2, 0], [0, 2]], [1, 2]), Decision([[1, 0], [0, 1]], [2, 1]),
                      Decision([[1, 0]], [1, 2]), Decision([[0, 1], [1, 0]], [1, 2]),
                      Decision([[1, 0], [0, 1], [0, 1]], [1, 2]),
                      Decision([[1, 0, 0], [0, 1, 0]], [1, 2, 0]), Decision([[1, 0], [0, 1]], [1, 3])]:
            self.assertIs(d == other, False)
            self.assertIs(other == d, False)
            self.assertIs(d != other, True)

    def test_other_kinds_of_values(self):
        d = Decision([[1, 0], [0, 1]], [1, 1])
        for other in [None, 0, True, "", "d", [[1, 0], [0, 1]], ((1, 0), (0, 1)), ([[1, 0], [0, 1]], [1, 1]), {},
                      object(), Decision, revealing(2)]:
            self.assertIs(d == other, False)
            self.assertIs(other == d, False)
            self.assertIs(d != other, True)


class Values(unittest.TestCase):

    def test_the_gain_of_each_rule(self):
        for d, e in some_pairs(41, 60):
            for rule in rules(d, e):
                self.assertEqual(gain(d, e, rule), as_ratio(gain_of(d, e, rule)))
                self.assertEqual(gain(d, e, list(rule)), gain(d, e, rule))

    def test_the_value_is_the_greatest_gain(self):
        for d, e in some_pairs(42, 150):
            self.assertEqual(value(d, e), as_ratio(max(gain_of(d, e, rule) for rule in rules(d, e))))

    def test_as_large_as_callers_may_pass_them(self):
        rng = random.Random(43)
        for _ in range(20):
            e, d = some_experiment(rng, 4, 6), some_decision(rng, 4, 6)
            merits = [[sum(Fraction(d.prior()[state] * e.rows()[state][signal] * d.payoffs()[act][state],
                                    sum(d.prior()) * e.unit) for state in range(4))
                       for act in range(6)] for signal in range(6)]
            self.assertEqual(value(d, e), as_ratio(sum(max(row) for row in merits)))
            self.assertEqual(best_acts(d, e), [[act for act in range(6) if row[act] == max(row)] for row in merits])
            for _ in range(20):
                rule = [rng.randrange(6) for _ in range(6)]
                self.assertEqual(gain(d, e, rule), as_ratio(sum(row[act] for row, act in zip(merits, rule))))

    def test_payoffs_below_0_and_priors_with_zeros(self):
        e = Experiment(4, [[3, 1], [1, 3]])
        self.assertEqual(value(Decision([[-1, -2], [-3, -1]], [1, 1]), e), (-11, 8))
        self.assertEqual(value(Decision([[-1, 1000], [-3, 1000]], [1, 0]), e), (-1, 1))
        self.assertEqual(value(Decision([[7]], [9]), Experiment(3, [[1, 2, 0]])), (7, 1))
        self.assertEqual(value(Decision([[1, 0], [0, 1]], [1, 1]), Experiment(1, [[1, 0, 0], [0, 0, 1]])), (1, 1))
        self.assertEqual(value(Decision([[0, 0]], [1, 1]), e), (0, 1))

    def test_mismatch(self):
        d = Decision([[1, 0, 0], [0, 1, 0]], [1, 1, 1])
        for states in (1, 2, 4):
            for deed in (value, best_acts, best_rule, price):
                expect_error(self, Mismatch(), lambda: deed(d, uninformative(states)))
            for rule in ([0], [], [0, 0], [5], [None]):
                expect_error(self, Mismatch(), lambda: gain(d, uninformative(states), rule))

    def test_bad_rule(self):
        d = Decision([[1, 0], [0, 1], [2, 2]], [1, 1])
        e = Experiment(4, [[3, 1, 0], [1, 1, 2]])
        cases = [([], 0), ([0], 1), ([0, 1], 2), ([0, 1, 2, 0], 3), ([0, 1, 2, 0, 0, 0], 3), ([3], 0), ([0, 3], 1),
                 ([0, 0, 3], 2), ([-1, 0, 0], 0), ([0, -1, 9], 1), ([0, 0, -1], 2), ([0, 3, 0, 0], 1), ([9] * 4, 0),
                 ([0, 0, 0, 9], 3), ([0, 0, 0, None], 3), ([0, BIG], 1)]
        for rule, index in cases:
            with self.subTest(rule=rule):
                expect_error(self, BadRule(index), lambda: gain(d, e, rule))
                expect_error(self, BadRule(index), lambda: gain(d, e, tuple(rule)))
        for wrong in NO_INTEGERS:
            expect_error(self, BadRule(0), lambda: gain(d, e, [wrong, 0, 0]))
            expect_error(self, BadRule(1), lambda: gain(d, e, [0, wrong, wrong]))
            expect_error(self, BadRule(2), lambda: gain(d, e, [0, 2, wrong, 0]))

    def test_arguments_stay_and_go_by_name(self):
        d, e, rule = Decision([[1, 0], [0, 1]], [1, 1]), Experiment(4, [[3, 1], [1, 3]]), [1, 0]
        self.assertEqual(gain(rule=rule, e=e, d=d), (1, 4))
        self.assertEqual(rule, [1, 0])
        self.assertEqual([value(e=e, d=d), price(e=e, d=d)], [(3, 4), (1, 4)])
        self.assertEqual([best_acts(e=e, d=d), best_rule(e=e, d=d)], [[[0], [1]], [0, 1]])
        self.assertEqual([d.payoffs(), d.prior(), e.rows()], [[[1, 0], [0, 1]], [1, 1], [[3, 1], [1, 3]]])


class BestActs(unittest.TestCase):

    def test_acts_of_the_rules_with_the_greatest_gain(self):
        for d, e in some_pairs(44, 100, acts=4):
            gains = {rule: gain_of(d, e, rule) for rule in rules(d, e)}
            top = [rule for rule in gains if gains[rule] == max(gains.values())]
            acts = [sorted({rule[signal] for rule in top}) for signal in range(e.signals)]
            self.assertEqual(best_acts(d, e), acts)
            self.assertEqual(best_rule(d, e), [found[0] for found in acts])
            self.assertEqual(gain(d, e, best_rule(d, e)), value(d, e))

    def test_equally_good_acts(self):
        e = Experiment(4, [[3, 1], [1, 3]])
        d = Decision([[0, 1], [1, 0], [1, 0], [0, 1], [-1, -1]], [1, 1])
        self.assertEqual([best_acts(d, e), best_rule(d, e)], [[[1, 2], [0, 3]], [1, 0]])
        self.assertEqual(best_acts(Decision([[5, 5]] * 3, [1, 1]), e), [[0, 1, 2]] * 2)
        # Three times as likely and a third of the payoff.
        self.assertEqual(best_acts(Decision([[1, 0], [0, 3]], [1, 1]), e), [[0, 1], [1]])

    def test_all_acts_for_a_signal_with_the_probability_0(self):
        d = Decision([[1, 0], [0, 1], [-5, -5]], [1, 1])
        e = Experiment(4, [[3, 0, 1], [1, 0, 3]])
        self.assertEqual([best_acts(d, e), best_rule(d, e)], [[[0], [0, 1, 2], [1]], [0, 0, 1]])
        # Under the prior, too: signal 1 comes only in a state with the prior 0.
        self.assertEqual(best_acts(with_prior(d, [1, 0]), revealing(2)), [[0], [0, 1, 2]])

    def test_lists_are_new(self):
        d, e = Decision([[1, 0], [0, 1]], [1, 1]), revealing(2)
        told, rule = best_acts(d, e), best_rule(d, e)
        self.assertEqual(all_lists([told, rule]), [[[int], [int]], [int, int]])
        told[0].append(7)
        told.append([])
        rule.append(7)
        self.assertEqual([best_acts(d, e), best_rule(d, e)], [[[0], [1]], [0, 1]])


class Prices(unittest.TestCase):

    def test_value_less_the_value_without_a_signal(self):
        for d, e in some_pairs(45, 200):
            without = max(gain_of(d, uninformative(d.states), [act]) for act in range(d.acts))
            expected = max(gain_of(d, e, rule) for rule in rules(d, e)) - without
            self.assertEqual(price(d, e), as_ratio(expected))
            self.assertGreaterEqual(expected, 0)

    def test_plain_prices(self):
        d = Decision([[1, 0], [0, 1]], [1, 1])
        self.assertEqual([price(d, revealing(2)), price(d, uninformative(2))], [(1, 2), (0, 1)])
        self.assertEqual(price(Decision([[-3, -8]], [2, 5]), revealing(2)), (0, 1))
        # A signal that does not change the act is worth nothing.
        self.assertEqual(price(with_prior(d, [9, 1]), Experiment(4, [[3, 1], [1, 3]])), (0, 1))


class OtherDecisions(unittest.TestCase):

    def setUp(self):
        self.d = Decision([[5, -3, 0], [2, 4, -6]], [3, 0, 6])

    def tearDown(self):
        self.assertEqual([self.d.payoffs(), self.d.prior()], [[[5, -3, 0], [2, 4, -6]], [1, 0, 2]])

    def test_shifted(self):
        for amounts in ([10, 0, -1], (10, 0, -1)):
            other = shifted(self.d, amounts)
            self.assertIs(type(other), Decision)
            self.assertEqual([other.payoffs(), other.prior()], [[[15, -3, -1], [12, 4, -7]], [1, 0, 2]])
        amounts = [1, 2, 3]
        self.assertEqual(shifted(amounts=amounts, d=self.d).payoffs(), [[6, -1, 3], [3, 6, -3]])
        self.assertEqual(amounts, [1, 2, 3])
        self.assertEqual(shifted(self.d, [BIG, 0, 0])[0, 0], BIG + 5)
        self.assertEqual(shifted(self.d, [0, 0, 0]), self.d)

    def test_shifted_mismatch(self):
        for amounts in [[], [1], [1, 2], [1, 2, 3, 4], (), None, 3, "123", {0: 1, 1: 2, 2: 3}]:
            expect_error(self, Mismatch(), lambda: shifted(self.d, amounts))
        for wrong in NO_INTEGERS:
            expect_error(self, Mismatch(), lambda: shifted(self.d, [wrong, 1, 1]))
            expect_error(self, Mismatch(), lambda: shifted(self.d, [1, 1, wrong]))

    def test_scaled(self):
        self.assertEqual(scaled(self.d, 3), Decision([[15, -9, 0], [6, 12, -18]], [1, 0, 2]))
        self.assertEqual(scaled(factor=1, d=self.d), self.d)
        self.assertEqual(scaled(self.d, BIG)[1, 2], -6 * BIG)
        for factor in [0, -1, -BIG, *NO_INTEGERS]:
            expect_error(self, BadTimes(factor), lambda: scaled(self.d, factor))

    def test_with_prior(self):
        for prior in ([2, 2, 4], (2, 2, 4)):
            self.assertEqual(with_prior(self.d, prior), Decision([[5, -3, 0], [2, 4, -6]], [1, 1, 2]))
        prior = [0, 5, 0]
        self.assertEqual(with_prior(prior=prior, d=self.d).prior(), [0, 1, 0])
        self.assertEqual(prior, [0, 5, 0])
        for wrong in [[], [0, 0, 0], [1], [1, 1], [1, 1, 1, 1], [1, -1, 1], None, "111", [1, True, 1], [1, 1, None]]:
            expect_error(self, BadPrior(), lambda: with_prior(self.d, wrong))

    def test_without_act(self):
        self.assertEqual(without_act(self.d, 0), Decision([[2, 4, -6]], [1, 0, 2]))
        self.assertEqual(without_act(act=1, d=self.d), Decision([[5, -3, 0]], [1, 0, 2]))
        three = Decision([[1], [1], [2]], [1])
        self.assertEqual([without_act(three, act).payoffs() for act in range(3)], [[[1], [2]], [[1], [2]], [[1], [1]]])
        for act in [-1, 2, BIG, *NO_INTEGERS]:
            expect_error(self, NoAct(act), lambda: without_act(self.d, act))
        one = Decision([[1, 2]], [1, 1])
        expect_error(self, BadSize(0), lambda: without_act(one, 0))
        for act in [-1, 1, True, False, None]:
            expect_error(self, NoAct(act), lambda: without_act(one, act))

    def test_regrets(self):
        self.assertEqual(regrets(self.d), Decision([[0, -7, 0], [-3, 0, -6]], [1, 0, 2]))
        self.assertEqual(regrets(d=Decision([[-5, 8]], [1, 1])).payoffs(), [[0, 0]])
        self.assertEqual(regrets(Decision([[-5], [-5], [-9]], [1])).payoffs(), [[0], [0], [-4]])

    def test_what_they_do_to_values(self):
        rng = random.Random(46)
        for d, e in some_pairs(47, 100):
            amounts = [rng.randint(-9, 9) for _ in range(d.states)]
            mean = sum(Fraction(amount * weight, sum(d.prior())) for amount, weight in zip(amounts, d.prior()))
            worth = Fraction(*value(d, e))
            self.assertEqual(value(shifted(d, amounts), e), as_ratio(worth + mean))
            self.assertEqual(price(shifted(d, amounts), e), price(d, e))
            factor = rng.randint(1, 9)
            self.assertEqual(value(scaled(d, factor), e), as_ratio(worth * factor))
            self.assertEqual(best_acts(scaled(d, factor), e), best_acts(d, e))
            self.assertEqual(price(regrets(d), e), price(d, e))
            self.assertEqual(best_acts(regrets(d), e), best_acts(d, e))
            self.assertEqual(value(regrets(d), revealing(d.states)), (0, 1))
            if d.acts > 1:
                without = [value(without_act(d, act), e) for act in range(d.acts)]
                self.assertLessEqual(max(Fraction(*one) for one in without), worth)


if __name__ == "__main__":
    unittest.main()
