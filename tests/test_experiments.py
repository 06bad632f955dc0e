"""Points [3], [7], [8], [21], [22] and [23]: experiments."""

import unittest
from fractions import Fraction
from itertools import product

from everydecider import experiments
from everydecider.errors import BadPrior, BadRow, BadSize, BadUnit, Mismatch, NoSignal, NoState
from everydecider.experiments import Experiment, posterior, probability, revealing, two_signals, uninformative
from tests.examples import expect_error, run_examples
from tests.values import BAD_ROWS, BIG, NO_INTEGERS, as_ratio

EXAMPLES = """
    >>> e = Experiment(8, [[6, 2], [2, 6]])
    >>> [e.unit, e.rows(), e[0, 1], len(e), e == Experiment(4, ((3, 1), (1, 3)))]
    [4, [[3, 1], [1, 3]], (1, 4), 2, True]
    >>> [probability(e, [1, 1], 0), posterior(e, [1, 2], 0), posterior(revealing(2), [0, 1], 0)]
    [(1, 2), [(3, 5), (2, 5)], None]
    >>> [two_signals(3, [3, 1]).rows(), uninformative(2).rows()]
    [[[3, 0], [1, 2]], [[1], [1]]]
    >>> Experiment(4, [[3, 1], [1, 4]])
    raises BadRow(1)
"""


def three_signals():
    return Experiment(12, [[6, 4, 2, 0], [0, 3, 9, 0], [12, 0, 0, 0]])


class Examples(unittest.TestCase):

    def test_examples(self):
        run_examples(self, EXAMPLES, vars(experiments))


class Construction(unittest.TestCase):

    def test_attributes_and_rows(self):
        e = Experiment(4, [[3, 1, 0], [1, 2, 1]])
        self.assertEqual([e.unit, e.states, e.signals, len(e)], [4, 2, 3, 3])
        self.assertEqual(e.rows(), [[3, 1, 0], [1, 2, 1]])
        self.assertIs(type(e.rows()), list)
        self.assertEqual([type(row) for row in e.rows()], [list, list])

    def test_one_to_four_states_one_to_six_signals(self):
        for states, signals in product(range(1, 5), range(1, 7)):
            e = Experiment(signals, [[1] * signals] * states)
            self.assertEqual([e.unit, e.states, e.signals, len(e)], [signals, states, signals, signals])

    def test_more_signals_and_greater_units_are_no_error(self):
        e = Experiment(30 * BIG, [[BIG] * 30, [0] * 29 + [30 * BIG]])
        self.assertEqual([e.unit, e.signals, e[1, 29], e[0, 0]], [30, 30, (1, 1), (1, 30)])

    def test_bad_unit(self):
        for unit in [0, -1, -BIG, *NO_INTEGERS]:
            expect_error(self, BadUnit(unit), lambda: Experiment(unit, [[1], [1]]))

    def test_bad_size(self):
        expect_error(self, BadSize(0), lambda: Experiment(1, []))
        expect_error(self, BadSize(0), lambda: Experiment(1, ()))
        expect_error(self, BadSize(5), lambda: Experiment(1, [[1]] * 5))
        expect_error(self, BadSize(9), lambda: Experiment(1, [[1]] * 9))

    def test_bad_row(self):
        for index, rows in BAD_ROWS:
            with self.subTest(rows=rows):
                expect_error(self, BadRow(index), lambda: Experiment(4, rows))
                expect_error(self, BadRow(index), lambda: Experiment(4, tuple([tuple(row) for row in rows])))

    def test_a_row_of_something_else_than_integers(self):
        for wrong in NO_INTEGERS:
            expect_error(self, BadRow(0), lambda: Experiment(1, [[wrong, 0], [1, 0]]))
            expect_error(self, BadRow(1), lambda: Experiment(1, [[1, 0], [1, wrong]]))
        expect_error(self, BadRow(0), lambda: Experiment(1, [[True]]))
        expect_error(self, BadRow(0), lambda: Experiment(1, [[1, False]]))
        expect_error(self, BadRow(0), lambda: Experiment(1, [None]))
        expect_error(self, BadRow(1), lambda: Experiment(1, [[1], {1: 1}]))

    def test_order_of_the_errors(self):
        expect_error(self, BadUnit(0), lambda: Experiment(0, []))
        expect_error(self, BadUnit(None), lambda: Experiment(None, [[1], [2, None]]))
        expect_error(self, BadSize(5), lambda: Experiment(1, [[1], [], [1], [1], [1]]))

    def test_lowest_terms(self):
        cases = [
            (8, [[6, 2], [2, 6]], 4, [[3, 1], [1, 3]]),
            (8, [[6, 2], [3, 5]], 8, [[6, 2], [3, 5]]),
            (6, [[6, 0], [0, 6]], 1, [[1, 0], [0, 1]]),
            (1000, [[1000]], 1, [[1]]),
            (30, [[10, 20], [15, 15]], 6, [[2, 4], [3, 3]]),
            (12, [[0, 12, 0], [4, 4, 4]], 3, [[0, 3, 0], [1, 1, 1]]),
            (2 * BIG, [[BIG, BIG], [2 * BIG, 0]], 2, [[1, 1], [2, 0]]),
        ]
        for unit, rows, lowest_unit, lowest_rows in cases:
            e = Experiment(unit, rows)
            self.assertEqual([e.unit, e.rows()], [lowest_unit, lowest_rows])

    def test_arguments_by_name(self):
        e = Experiment(rows=[[3, 1], [1, 3]], unit=4)
        self.assertEqual(e, Experiment(4, [[3, 1], [1, 3]]))
        self.assertEqual(e, Experiment(4, rows=[[3, 1], [1, 3]]))

    def test_later_changes_of_lists_have_no_effect(self):
        for unit in (4, 8):
            first = [unit // 2, unit // 2]
            rows = [first, [unit, 0]]
            e = Experiment(unit, rows)
            before = e.rows()
            self.assertEqual(rows, [[unit // 2, unit // 2], [unit, 0]])
            first[0] = 99
            rows.append([1])
            self.assertEqual([e.rows(), e.states, e.signals, e[0, 0]], [before, 2, 2, (1, 2)])
            told = e.rows()
            told[0][0] = 99
            told.append([1])
            told[1].append(5)
            self.assertEqual([e.rows(), len(e), e[0, 0]], [before, 2, (1, 2)])
            self.assertIsNot(e.rows(), e.rows())
            self.assertIsNot(e.rows()[0], e.rows()[0])


class Items(unittest.TestCase):

    def test_probabilities(self):
        e = three_signals()
        self.assertEqual([[e[state, signal] for signal in range(4)] for state in range(3)],
                         [[(1, 2), (1, 3), (1, 6), (0, 1)],
                          [(0, 1), (1, 4), (3, 4), (0, 1)],
                          [(1, 1), (0, 1), (0, 1), (0, 1)]])

    def test_no_state_then_no_signal(self):
        e = three_signals()
        for state in [-1, 3, 4, BIG, *NO_INTEGERS]:
            for signal in (0, -1, 4, None):
                expect_error(self, NoState(state), lambda: e[state, signal])
        for signal in [-1, 4, 5, BIG, *NO_INTEGERS]:
            expect_error(self, NoSignal(signal), lambda: e[0, signal])
            expect_error(self, NoSignal(signal), lambda: e[2, signal])

    def test_no_iteration(self):
        with self.assertRaises(TypeError):
            list(three_signals())


class Equality(unittest.TestCase):

    def test_equal(self):
        e = Experiment(4, [[3, 1], [1, 3]])
        self.assertTrue(e == e)
        self.assertIs(e == Experiment(4, [[3, 1], [1, 3]]), True)
        self.assertIs(e == Experiment(400, ((300, 100), (100, 300))), True)
        self.assertIs(e != Experiment(8, [[6, 2], [2, 6]]), False)

    def test_not_equal(self):
        e = Experiment(4, [[3, 1], [1, 3]])
        others = [Experiment(4, [[3, 1], [3, 1]]), Experiment(4, [[1, 3], [3, 1]]), Experiment(4, [[3, 1]]),
                  Experiment(4, [[3, 1], [1, 3], [1, 3]]), Experiment(4, [[3, 1, 0], [1, 3, 0]]),
                  Experiment(5, [[3, 2], [1, 4]])]
        for other in others:
            self.assertIs(e == other, False)
            self.assertIs(other == e, False)
            self.assertIs(e != other, True)

    def test_other_kinds_of_values(self):
        e = Experiment(4, [[3, 1], [1, 3]])
        for other in [None, 0, 4, True, "", "e", [[3, 1], [1, 3]], ((3, 1), (1, 3)), (4, [[3, 1], [1, 3]]), {},
                      object(), Experiment]:
            self.assertIs(e == other, False)
            self.assertIs(other == e, False)
            self.assertIs(e != other, True)


class Priors(unittest.TestCase):

    def test_probability_and_posterior(self):
        for e in (three_signals(), Experiment(7, [[1, 2, 4], [0, 7, 0], [3, 3, 1]])):
            rows = e.rows()
            for prior in product((0, 1, 3, 1000), repeat=3):
                if sum(prior) == 0:
                    continue
                for signal in range(len(e)):
                    parts = [Fraction(prior[state] * rows[state][signal], sum(prior) * e.unit) for state in range(3)]
                    self.assertEqual(probability(e, prior, signal), as_ratio(sum(parts)))
                    self.assertEqual(probability(e, list(prior), signal), as_ratio(sum(parts)))
                    behind = [as_ratio(part / sum(parts)) for part in parts] if sum(parts) else None
                    self.assertEqual(posterior(e, prior, signal), behind)
                    self.assertEqual(posterior(e, list(prior), signal), behind)

    def test_a_signal_that_cannot_come(self):
        e = three_signals()
        self.assertIsNone(posterior(e, [1, 1, 1], 3))
        self.assertIsNone(posterior(e, [0, 1, 0], 0))
        self.assertIsNone(posterior(e, [0, 0, 5], 2))
        self.assertEqual(probability(e, [1, 1, 1], 3), (0, 1))
        self.assertEqual(posterior(e, [0, 5, 0], 2), [(0, 1), (1, 1), (0, 1)])

    def test_one_state(self):
        e = Experiment(2, [[1, 1]])
        self.assertEqual([probability(e, [7], 1), posterior(e, (7,), 1)], [(1, 2), [(1, 1)]])

    def test_bad_prior(self):
        e = three_signals()
        wrong = [[], (), [0], [0, 0, 0], (0, 0, 0), [0, 0], [1, 1, -1], [-1, 2, 3], [5, -1], [-1], [1, 1, True],
                 [False, 1, 1], [True], [1, None, 1], [1, "1", 1], ["", 1, 1], [[1], 1, 1], None, "111", 3, {1: 1}]
        for deed in (probability, posterior):
            for prior in wrong:
                with self.subTest(prior=prior):
                    expect_error(self, BadPrior(), lambda: deed(e, prior, 0))

    def test_order_of_the_errors(self):
        e = three_signals()
        for deed in (probability, posterior):
            expect_error(self, BadPrior(), lambda: deed(e, [0, 0], 9))
            expect_error(self, BadPrior(), lambda: deed(e, [0, 0, 0, 0], -1))
            for prior in ([1], [1, 1], [1, 0, 0, 0], (1, 1, 1, 1)):
                for signal in (0, 9, None):
                    expect_error(self, Mismatch(), lambda: deed(e, prior, signal))
            for signal in [-1, 4, BIG, *NO_INTEGERS]:
                expect_error(self, NoSignal(signal), lambda: deed(e, [1, 1, 1], signal))

    def test_the_prior_stays_and_lists_are_new(self):
        e = three_signals()
        prior = [2, 4, 6]
        told = posterior(e, prior, 0)
        probability(e, prior, 0)
        self.assertEqual(prior, [2, 4, 6])
        self.assertIs(type(told), list)
        told.append(1)
        self.assertNotEqual(posterior(e, prior, 0), told)
        self.assertEqual(e, three_signals())

    def test_arguments_by_name(self):
        e = three_signals()
        self.assertEqual(probability(signal=0, prior=[1, 1, 0], e=e), (1, 4))
        self.assertEqual(posterior(signal=1, prior=[1, 1, 0], e=e), [(4, 7), (3, 7), (0, 1)])


class PlainExperiments(unittest.TestCase):

    def test_uninformative(self):
        for states in range(1, 5):
            e = uninformative(states)
            self.assertEqual([e.unit, e.states, e.signals, e.rows()], [1, states, 1, [[1]] * states])
        self.assertEqual(uninformative(states=2), uninformative(2))

    def test_revealing(self):
        self.assertEqual([revealing(states).rows() for states in range(1, 5)],
                         [[[1]],
                          [[1, 0], [0, 1]],
                          [[1, 0, 0], [0, 1, 0], [0, 0, 1]],
                          [[1, 0, 0, 0], [0, 1, 0, 0], [0, 0, 1, 0], [0, 0, 0, 1]]])
        self.assertEqual([type(number) for number in revealing(2).rows()[0]], [int, int])
        self.assertEqual([revealing(4).unit, revealing(states=1)], [1, uninformative(1)])

    def test_bad_size(self):
        for states in [-BIG, -1, 0, 5, 6, BIG, *NO_INTEGERS]:
            expect_error(self, BadSize(states), lambda: uninformative(states))
            expect_error(self, BadSize(states), lambda: revealing(states))

    def test_two_signals(self):
        cases = [
            (3, [3, 1], 3, [[3, 0], [1, 2]]),
            (4, [0, 4], 1, [[0, 1], [1, 0]]),
            (4, (2, 0, 4, 2), 2, [[1, 1], [0, 2], [2, 0], [1, 1]]),
            (1, [1], 1, [[1, 0]]),
            (1000, [1], 1000, [[1, 999]]),
        ]
        for unit, hits, lowest_unit, rows in cases:
            e = two_signals(unit, hits)
            self.assertEqual([e.unit, e.rows(), e.signals], [lowest_unit, rows, 2])
        self.assertEqual(two_signals(hits=[1, 2], unit=3), Experiment(3, [[1, 2], [2, 1]]))

    def test_two_signals_errors(self):
        for unit in [0, -1, *NO_INTEGERS]:
            expect_error(self, BadUnit(unit), lambda: two_signals(unit, [1]))
            expect_error(self, BadUnit(unit), lambda: two_signals(unit, []))
        expect_error(self, BadSize(0), lambda: two_signals(3, []))
        expect_error(self, BadSize(5), lambda: two_signals(3, [1, 9, 1, 1, 1]))
        expect_error(self, BadSize(6), lambda: two_signals(3, (1,) * 6))
        for hit in [-1, 4, BIG, *NO_INTEGERS]:
            expect_error(self, BadRow(0), lambda: two_signals(3, [hit, 1]))
            expect_error(self, BadRow(1), lambda: two_signals(3, [3, hit]))
            expect_error(self, BadRow(2), lambda: two_signals(3, [0, 3, hit, -1]))

    def test_the_hits_stay(self):
        hits = [1, 2]
        e = two_signals(3, hits)
        self.assertEqual(hits, [1, 2])
        hits[0] = 3
        self.assertEqual(e.rows(), [[1, 2], [2, 1]])


if __name__ == "__main__":
    unittest.main()
