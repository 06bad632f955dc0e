"""Points [7], [8] and [111] to [116]: values over all priors, groups of signals, priors and mixtures for acts."""

import random
import unittest
from fractions import Fraction
from itertools import combinations

from everydecider import bends as module
from everydecider import decisions, experiments, garblings
from everydecider.bends import (act_stretch, bends, groups_for, groups_for_all, mixture_above, prior_for, value_at,
                                worse_chance)
from everydecider.comparing import decision_against, never_worse
from everydecider.decisions import Decision, best_acts, value
from everydecider.errors import BadPayoffs, BadPrior, BadSize, Mismatch, NoAct, NoSignal, NotTwoStates
from everydecider.experiments import Experiment, revealing, uninformative
from everydecider.garblings import garbled, merging
from everydecider.together import again, both
from tests.examples import expect_error, run_examples
from tests.limits import in_time
from tests.pairs import CLEAR, DIM, SURE, worth
from tests.test_fewacts import all_partings
from tests.values import BIG, NO_INTEGERS, all_lists, as_ratio, in_tuples, parts, some_experiment, some_garbling

EXAMPLES = """
    >>> e = Experiment(4, [[3, 1], [1, 3]])
    >>> guess = [[1, 0], [0, 1]]
    >>> [bends(e, guess), act_stretch(e, guess, 0, 1), value_at(e, guess, (1, 2))]
    [[((0, 1), (1, 1)), ((1, 4), (3, 4)), ((3, 4), (3, 4)), ((1, 1), (1, 1))], ((3, 4), (1, 1)), (3, 4)]
    >>> [worse_chance(e, revealing(2), guess), worse_chance(revealing(2), e, guess)]
    [((1, 4), (1, 4)), None]
    >>> three = Experiment(4, [[2, 1, 1], [0, 2, 2]])
    >>> [groups_for(Decision(guess, [1, 1]), three), prior_for([[2, 0], [0, 2], [0, 0]], 2), mixture_above([[2, 0], [0, 2], [1, 1]], 2)]
    [[[0], [1, 2]], None, None]
    >>> five = Experiment(10, [[6, 3, 1], [1, 3, 6]])
    >>> groups_for_all([Decision(guess, [1, 1]), Decision([[1, 0], [0, 5]], [1, 1])], five)
    [[0], [1, 2]]
"""
GUESS = [[1, 0], [0, 1]]
ZERO, ONE, HALF = (0, 1), (1, 1), (1, 2)
# Payoffs for two states with the index of the first row that is wrong.
BAD_PAIRS = [(0, [[]]), (0, [[1]]), (0, [[1, 2, 3]]), (0, [[1], [1]]), (1, [[1, 2], [1]]), (1, [[1, 2], [1, 2, 3]]),
             (2, [[1, 2], [3, 4], [], [1]]), (0, [[1, 2, 3]] * 2), (0, [[1, 2, 3, 4], [1, 2]]), (0, [None, [1]]),
             (1, [[1, 2], 12]), (1, [[1, 2], "12"]), (0, ["12", [1, 2]]), (1, [[1, 2], {1: 1, 2: 2}]), (0, [True]),
             *[(0, [[wrong, 1], [1]]) for wrong in NO_INTEGERS], *[(1, [[0, 1], [1, wrong]]) for wrong in NO_INTEGERS]]
# Payoffs as for a decision, with the index of the first row that is wrong.
BAD_PAYOFFS = [(0, [[]]), (0, [[1] * 5]), (0, [[], [1]]), (1, [[1], []]), (1, [[1, 2], [1]]), (1, [[1, 2, 3, 4], [1] * 5]),
               (2, [[1, 2], [3, 4], [1, 2, 3]]), (0, [None]), (0, [1, 2]), (1, [[1, 2], "12"]), (1, [[1], True]),
               *[(0, [[1, wrong], [1]]) for wrong in NO_INTEGERS], *[(1, [[0, 1], [wrong, 1]]) for wrong in NO_INTEGERS]]


def lines(e, payoffs):
    """Point [111]: for each signal and act what it contributes at the chances 0 and 1."""
    return [[(Fraction(x * first, e.unit), Fraction(y * second, e.unit)) for first, second in payoffs]
            for x, y in zip(*e.rows())]


def at(line, chance):
    return line[0] * (1 - chance) + line[1] * chance


def worth_at(e, payoffs, chance):
    return sum(max(at(line, chance) for line in several) for several in lines(e, payoffs))


def crossings(e, payoffs):
    """All chances at which some act contributes as much as another one to a signal, with 0 and 1."""
    found = {Fraction(0), Fraction(1)}
    for several in lines(e, payoffs):
        for one, other in combinations(several, 2):
            less, more = one[0] - other[0], one[1] - other[1]
            if less != more and 0 <= less / (less - more) <= 1:
                found.add(less / (less - more))
    return sorted(found)


def bending(e, payoffs):
    """The chances at which the slope of the value changes: it is looked at between all crossings."""
    places = crossings(e, payoffs)
    slopes = [(worth_at(e, payoffs, right) - worth_at(e, payoffs, left)) / (right - left)
              for left, right in zip(places, places[1:])]
    inner = [place for place, before, behind in zip(places[1:], slopes, slopes[1:]) if before != behind]
    return [Fraction(0), *inner, Fraction(1)]


def some_payoffs(rng, acts, states=2):
    high = rng.choice([1, 2, 3, 10, 1000])
    payoffs = [[rng.randint(-high, high) for _ in range(states)] for _ in range(acts)]
    if rng.random() < 0.3:
        payoffs[rng.randrange(acts)] = list(rng.choice(payoffs))
    return payoffs


def some_two(rng, most=4):
    return some_experiment(rng, 2, rng.randint(1, most), rng.choice([0, 0.3, 0.6]))


class Examples(unittest.TestCase):

    def test_examples(self):
        run_examples(self, EXAMPLES, {**vars(experiments), **vars(garblings), **vars(decisions), **vars(module)})


class Chances(unittest.TestCase):

    def check_bends(self, e, payoffs):
        kept = [e.rows(), [list(row) for row in payoffs]]
        answer = bends(e, payoffs)
        expected = [(chance, worth_at(e, payoffs, chance)) for chance in bending(e, payoffs)]
        self.assertEqual(answer, [(as_ratio(chance), as_ratio(worth)) for chance, worth in expected], kept)
        self.assertEqual([type(answer), {type(pair) for pair in answer}], [list, {tuple}])
        self.assertEqual(bends(e, in_tuples(payoffs)), answer)
        self.assertEqual([e.rows(), payoffs], kept)
        return answer

    def test_value_at(self):
        rng = random.Random(111)
        for _ in range(300):
            e, payoffs = some_two(rng, 6), some_payoffs(rng, rng.randint(1, 6))
            for chance in [Fraction(0), Fraction(1), Fraction(rng.randint(0, 12), 12), Fraction(rng.randint(0, BIG), BIG)]:
                answer = value_at(e, payoffs, as_ratio(chance))
                self.assertEqual(answer, as_ratio(worth_at(e, payoffs, chance)))
                prior = [chance.denominator - chance.numerator, chance.numerator]
                self.assertEqual(answer, value(Decision(payoffs, prior), e))
                self.assertEqual(value_at(e, in_tuples(payoffs), as_ratio(chance)), answer)
        self.assertEqual(value_at(chance=(1, 4), e=CLEAR, payoffs=GUESS), (3, 4))
        self.assertEqual([value_at(revealing(2), [[5, -7]], chance) for chance in (ZERO, HALF, ONE)],
                         [(5, 1), (-1, 1), (-7, 1)])

    def test_bends_of_plain_ones(self):
        cases = [
            # One act, equal acts, an act that is worse everywhere.
            (CLEAR, [[3, 5]], [(ZERO, (3, 1)), (ONE, (5, 1))]),
            (CLEAR, [[3, 5], [3, 5]], [(ZERO, (3, 1)), (ONE, (5, 1))]),
            (CLEAR, [[3, 5], [2, 5], [3, 4]], [(ZERO, (3, 1)), (ONE, (5, 1))]),
            (uninformative(2), GUESS, [(ZERO, ONE), (HALF, HALF), (ONE, ONE)]),
            (revealing(2), GUESS, [(ZERO, ONE), (ONE, ONE)]),
            # The same crossing for two pairs of acts: once only; a crossing below the highest line: no bend.
            (uninformative(2), [[2, 0], [1, 1], [0, 2]], [(ZERO, (2, 1)), (HALF, ONE), (ONE, (2, 1))]),
            (uninformative(2), [[2, 0], [0, 0], [0, 2]], [(ZERO, (2, 1)), (HALF, ONE), (ONE, (2, 1))]),
            (uninformative(2), [[4, 0], [3, 2], [0, 3]],
             [(ZERO, (4, 1)), ((1, 3), (8, 3)), ((3, 4), (9, 4)), (ONE, (3, 1))]),
            # Signals that never come, or in one state only.
            (Experiment(4, [[3, 0, 1], [1, 0, 3]]), GUESS,
             [(ZERO, ONE), ((1, 4), (3, 4)), ((3, 4), (3, 4)), (ONE, ONE)]),
            (SURE, GUESS, [(ZERO, ONE), ((2, 3), (2, 3)), (ONE, ONE)]),
            # Two signals at which the acts change at one chance.
            (Experiment(4, [[2, 1, 1], [2, 1, 1]]), GUESS, [(ZERO, ONE), (HALF, HALF), (ONE, ONE)]),
        ]
        for e, payoffs, expected in cases:
            with self.subTest(e=e.rows(), payoffs=payoffs):
                self.assertEqual(self.check_bends(e, payoffs), expected)
        self.assertEqual(bends(payoffs=GUESS, e=SURE), bends(SURE, GUESS))

    def test_bends_of_many(self):
        rng = random.Random(112)
        found = {}
        for _ in range(400):
            count = len(self.check_bends(some_two(rng), some_payoffs(rng, rng.randint(1, 6))))
            found[count] = found.get(count, 0) + 1
        self.assertEqual([found.get(count, 0) > 3 for count in range(2, 6)], [True] * 4)

    def test_new_on_each_call(self):
        answer = bends(CLEAR, GUESS)
        answer.clear()
        self.assertEqual(len(bends(CLEAR, GUESS)), 4)

    def check_stretch(self, e, payoffs, signal, act):
        kept = [e.rows(), [list(row) for row in payoffs]]
        answer = act_stretch(e, payoffs, signal, act)
        several = lines(e, payoffs)[signal]
        places = crossings(e, payoffs)
        places = sorted(places + [(left + right) / 2 for left, right in zip(places, places[1:])])
        best = [place for place in places if at(several[act], place) == max(at(line, place) for line in several)]
        self.assertEqual(answer, (as_ratio(best[0]), as_ratio(best[-1])) if best else None, kept)
        # Between them it is best as well.
        self.assertEqual(best, [place for place in places if best and best[0] <= place <= best[-1]])
        for place in best:
            prior = [place.denominator - place.numerator, place.numerator]
            self.assertIn(act, best_acts(Decision(payoffs, prior), e)[signal])
        self.assertEqual(act_stretch(e, in_tuples(payoffs), signal, act), answer)
        self.assertEqual([e.rows(), payoffs], kept)
        return answer

    def test_stretches_of_plain_ones(self):
        rain = [[2, 0], [0, 2], [1, 1], [0, 0], [2, 0], [2, -1]]
        empty = Experiment(4, [[3, 0, 1], [1, 0, 3]])
        cases = [
            (uninformative(2), rain, 0, [(ZERO, HALF), (HALF, ONE), (HALF, HALF), None, (ZERO, HALF), (ZERO, ZERO)]),
            (CLEAR, rain, 0, [(ZERO, (3, 4)), ((3, 4), ONE), ((3, 4), (3, 4)), None, (ZERO, (3, 4)), (ZERO, ZERO)]),
            # A signal that never comes; one that comes in one state only.
            (empty, rain, 1, [(ZERO, ONE)] * 6),
            (SURE, rain, 0, [(ZERO, (2, 3)), ((2, 3), ONE), ((2, 3), (2, 3)), None, (ZERO, (2, 3)), (ZERO, ZERO)]),
            (SURE, rain, 1, [(ZERO, ZERO), (ZERO, ONE), (ZERO, ZERO), (ZERO, ZERO), (ZERO, ZERO), (ZERO, ZERO)]),
            (Experiment(1, [[1, 0], [0, 1]]), rain, 0, [(ZERO, ONE), ONE, ONE, ONE, (ZERO, ONE), (ZERO, ONE)]),
            (uninformative(2), [[1, 1], [1, 1], [1, 0], [0, 1]], 0, [(ZERO, ONE), (ZERO, ONE), (ZERO, ZERO), (ONE, ONE)]),
        ]
        for e, payoffs, signal, expected in cases:
            for act, stretch in enumerate(expected):
                with self.subTest(e=e.rows(), act=act):
                    stretch = (ONE, ONE) if stretch == ONE else stretch
                    self.assertEqual(self.check_stretch(e, payoffs, signal, act), stretch)
        self.assertEqual(act_stretch(act=1, signal=0, payoffs=GUESS, e=CLEAR), ((3, 4), ONE))

    def test_stretches_of_many(self):
        rng = random.Random(113)
        found = {"none": 0, "point": 0, "all": 0, "some": 0}
        for _ in range(300):
            e, payoffs = some_two(rng), some_payoffs(rng, rng.randint(1, 6))
            for act in range(len(payoffs)):
                answer = self.check_stretch(e, payoffs, rng.randrange(e.signals), act)
                kind = "none" if answer is None else "all" if answer == (ZERO, ONE) else \
                    "point" if answer[0] == answer[1] else "some"
                found[kind] += 1
        self.assertGreater(min(found.values()), 20)

    def check_worse(self, one, other, payoffs):
        kept = [one.rows(), other.rows(), [list(row) for row in payoffs]]
        answer = worse_chance(one, other, payoffs)
        places = sorted({*crossings(one, payoffs), *crossings(other, payoffs)})
        amounts = [worth_at(other, payoffs, place) - worth_at(one, payoffs, place) for place in places]
        if max(amounts) <= 0:
            self.assertIsNone(answer)
        else:
            first = places[amounts.index(max(amounts))]
            self.assertEqual(answer, (as_ratio(first), as_ratio(max(amounts))), kept)
            self.assertEqual(type(answer), tuple)
        self.assertEqual(worse_chance(one, other, in_tuples(payoffs)), answer)
        self.assertEqual([one.rows(), other.rows(), payoffs], kept)
        return answer

    def test_worse_chance_of_plain_ones(self):
        cases = [
            (CLEAR, revealing(2), GUESS, ((1, 4), (1, 4))), (revealing(2), CLEAR, GUESS, None),
            (CLEAR, CLEAR, GUESS, None), (CLEAR, DIM, GUESS, None), (DIM, CLEAR, GUESS, ((1, 3), (1, 12))),
            (uninformative(2), revealing(2), GUESS, (HALF, HALF)), (uninformative(2), revealing(2), [[1, 0]], None),
            (SURE, CLEAR, GUESS, ((2, 3), (1, 12))), (CLEAR, SURE, GUESS, ((1, 4), (1, 8))),
        ]
        for one, other, payoffs, expected in cases:
            with self.subTest(one=one.rows(), other=other.rows()):
                self.assertEqual(self.check_worse(one, other, payoffs), expected)
        # At the least of several chances.
        flat = [[4, 0], [0, 4], [3, 3]]
        self.assertEqual(self.check_worse(uninformative(2), revealing(2), flat), ((1, 4), ONE))
        self.assertEqual(self.check_worse(DIM, revealing(2), GUESS), ((1, 3), (1, 3)))
        self.assertEqual(worse_chance(payoffs=GUESS, other=revealing(2), one=DIM), ((1, 3), (1, 3)))

    def test_worse_chance_of_many(self):
        rng = random.Random(114)
        found = {True: 0, False: 0}
        for number in range(300):
            one = some_two(rng)
            other = some_two(rng) if number % 2 else garbled(one, some_garbling(rng, one.signals, 3))
            payoffs = some_payoffs(rng, rng.randint(1, 6))
            for pair in ((one, other), (other, one)):
                answer = self.check_worse(*pair, payoffs)
                self.assertTrue(answer is None or not never_worse(*pair))
                found[answer is None] += 1
        self.assertGreater(min(found.values()), 50)

    def test_evidence_against_an_experiment_has_such_a_chance(self):
        rng = random.Random(115)
        for _ in range(30):
            one, other = some_two(rng), some_two(rng)
            d = decision_against(one, other)
            if d is not None:
                self.assertIsNotNone(self.check_worse(one, other, d.payoffs()))

    def test_large_ones(self):
        rng = random.Random(116)
        with in_time(self, 60):
            payoffs = [[rng.randint(-1000, 1000) for _ in range(2)] for _ in range(6)]
            for unit in (1000, BIG):
                e, f = [Experiment(unit, [parts(rng, unit, 6, 0) for _ in range(2)]) for _ in range(2)]
                self.check_bends(e, payoffs)
                self.check_worse(e, f, payoffs)
            many = both(e, again(Experiment(97, [[30, 67], [60, 37]]), 3))
            answer = bends(many, payoffs)
            self.assertEqual([answer[0][0], answer[-1][0], many.signals], [ZERO, ONE, 48])
            self.assertEqual(answer, [(chance, value_at(many, payoffs, chance)) for chance, _ in answer])
            self.assertIsNone(worse_chance(many, e, payoffs))


class ChanceErrors(unittest.TestCase):

    def test_not_two_states(self):
        two = uninformative(2)
        for states in (1, 3, 4):
            e = uninformative(states)
            for payoffs in (GUESS, [], [[1] * states], [[True]]):
                expect_error(self, NotTwoStates(states), lambda: value_at(e, payoffs, (3, 2)))
                expect_error(self, NotTwoStates(states), lambda: bends(e, payoffs))
                expect_error(self, NotTwoStates(states), lambda: act_stretch(e, payoffs, 9, 9))
                for one, other in [(e, two), (two, e), (e, e), *[(e, uninformative(more)) for more in (1, 3, 4)]]:
                    expect_error(self, NotTwoStates(states), lambda: worse_chance(one, other, payoffs))

    def test_payoffs(self):
        for wrong, payoffs in [*[(BadPayoffs(index), payoffs) for index, payoffs in BAD_PAIRS],
                               (BadSize(0), []), (BadSize(0), ())]:
            with self.subTest(payoffs=payoffs):
                for several in (payoffs, tuple(payoffs)):
                    # Before the chance, the signal and the act are looked at.
                    expect_error(self, wrong, lambda: value_at(CLEAR, several, (3, 2)))
                    expect_error(self, wrong, lambda: bends(CLEAR, several))
                    expect_error(self, wrong, lambda: act_stretch(CLEAR, several, 9, 9))
                    expect_error(self, wrong, lambda: worse_chance(CLEAR, DIM, several))

    def test_chance(self):
        for chance in [(-1, 2), (3, 2), (2, 1), (-1, 1), (BIG + 1, BIG), (-1, BIG)]:
            expect_error(self, BadPrior(), lambda: value_at(CLEAR, GUESS, chance))
        # What is no ratio is no chance.
        for chance in [(2, 4), (1, 0), (1, -2), (0, 2), (True, 1), (0, True), (1,), (1, 2, 3), [1, 2], 1, None, "1/2", ()]:
            expect_error(self, BadPrior(), lambda: value_at(CLEAR, GUESS, chance))
        self.assertEqual([value_at(CLEAR, GUESS, ZERO), value_at(CLEAR, GUESS, ONE)], [ONE, ONE])

    def test_signal_and_act(self):
        for wrong in [-1, 2, 6, BIG, -BIG, *NO_INTEGERS]:
            expect_error(self, NoSignal(wrong), lambda: act_stretch(CLEAR, GUESS, wrong, 0))
            expect_error(self, NoSignal(wrong), lambda: act_stretch(CLEAR, GUESS, wrong, 9))
            expect_error(self, NoAct(wrong), lambda: act_stretch(CLEAR, GUESS, 0, wrong))
        expect_error(self, NoSignal(1), lambda: act_stretch(uninformative(2), GUESS, 1, 1))
        expect_error(self, NoAct(1), lambda: act_stretch(CLEAR, [[1, 2]], 1, 1))


class Groups(unittest.TestCase):

    def keeps(self, several, e, groups):
        merged = Experiment(e.unit, [[sum(row[signal] for signal in group) for group in groups] for row in e.rows()])
        return all(worth(d, merged) == worth(d, e) for d in several)

    def check(self, several, e):
        kept = [e.rows(), [(d.payoffs(), d.prior()) for d in several]]
        answers = [groups_for_all(several, e), groups_for_all(tuple(several), e), groups_for_all(several, e)]
        if len(several) == 1:
            answers.append(groups_for(several[0], e))
        for groups in answers:
            self.assertEqual(all_lists(groups), [[int] * len(group) for group in groups])
            self.assertEqual(sorted(signal for group in groups for signal in group), list(range(e.signals)))
            self.assertEqual(groups, sorted(sorted(group) for group in groups))
            self.assertTrue(self.keeps(several, e, groups), kept)
            for d in several:
                self.assertEqual(value(d, garbled(e, merging(groups, e.signals))), value(d, e))
            fewer = [parting for count in range(1, len(groups)) for parting in all_partings(e.signals, count)
                     if self.keeps(several, e, parting)]
            self.assertEqual(fewer, [], kept)
        self.assertEqual([e.rows(), [(d.payoffs(), d.prior()) for d in several]], kept)
        return answers[0]

    def test_plain_ones(self):
        guess = Decision(GUESS, [1, 1])
        three = Experiment(4, [[2, 1, 1], [0, 2, 2]])
        cases = [
            ([guess], three, [[0], [1, 2]]), ([guess], CLEAR, [[0], [1]]), ([guess], uninformative(2), [[0]]),
            ([Decision([[1, 0]], [1, 1])], three, [[0, 1, 2]]), ([Decision([[1, 0], [1, 0]], [1, 1])], three, [[0, 1, 2]]),
            ([Decision(GUESS, [1, 0])], three, [[0, 1, 2]]), ([], three, [[0, 1, 2]]), ([], uninformative(4), [[0]]),
            # An act in the middle that is as good as the others for all signals.
            ([Decision([[3, 0], [0, 1], [3, 1]], [1, 1])], three, [[0, 1, 2]]),
            # A signal that never comes may be in any group.
            ([guess], Experiment(4, [[0, 2, 2], [0, 2, 2]]), [[0, 1, 2]]),
            ([guess, Decision([[1, 0], [0, 5]], [1, 1])], Experiment(10, [[6, 3, 1], [1, 3, 6]]), [[0], [1, 2]]),
            ([guess, Decision([[2, 0], [0, 1]], [1, 1]), Decision([[1, 0], [0, 2]], [1, 1])],
             Experiment(20, [[11, 4, 4, 1], [1, 3, 6, 10]]), None),
        ]
        for several, e, expected in cases:
            with self.subTest(e=e.rows()):
                groups = self.check(several, e)
                self.assertTrue(expected is None or groups == expected, groups)
        self.assertEqual([groups_for(e=three, d=guess), groups_for_all(e=three, decisions=[guess])], [[[0], [1, 2]]] * 2)

    def test_a_choice_of_acts_that_is_no_obvious_one(self):
        # Each of three acts is best for two signals; the act that is best for most signals is of no use.
        e = revealing(4)
        d = Decision([[1, 1, 0, 0], [0, 0, 1, 1], [0, 1, 1, 0]], [1, 1, 1, 1])
        self.assertEqual(self.check([d], e), [[0, 1], [2, 3]])
        six = Experiment(2, [[1, 1, 0, 0, 0, 0], [0, 0, 1, 1, 0, 0], [0, 0, 0, 0, 1, 1]])
        d = Decision([[1, 1, 0], [0, 0, 1], [0, 1, 1], [1, 0, 0]], [1, 1, 1])
        self.assertEqual(len(self.check([d], six)), 2)

    def test_many(self):
        rng = random.Random(117)
        found = {}
        for number in range(150):
            states = rng.randint(1, 4)
            e = some_experiment(rng, states, rng.randint(1, 5))
            several = []
            for _ in range(number % 4):
                prior = [rng.choice([0, 1, 1, 2, 1000]) for _ in range(states)]
                prior[rng.randrange(states)] = 1
                several.append(Decision(some_payoffs(rng, rng.randint(1, 6), states), prior))
            groups = self.check(several, e)
            found[len(groups)] = found.get(len(groups), 0) + 1
        self.assertGreater(min(found.get(count, 0) for count in (1, 2, 3)), 5)

    def test_as_large_as_callers_may_pass_them(self):
        rng = random.Random(118)
        with in_time(self, 60):
            e = Experiment(1000, [parts(rng, 1000, 6, 0) for _ in range(4)])
            several = [Decision([[rng.randint(-1000, 1000) for _ in range(4)] for _ in range(6)],
                                [rng.randint(0, 1000) for _ in range(4)]) for _ in range(3)]
            self.check(several, e)
            self.check(several[:1], e)

    def test_mismatch(self):
        d = Decision(GUESS, [1, 1])
        for states in (1, 3, 4):
            e = uninformative(states)
            same = Decision([[1] * states], [1] * states)
            expect_error(self, Mismatch(), lambda: groups_for(d, e))
            expect_error(self, Mismatch(), lambda: groups_for(same, CLEAR))
            for several in ([d], [same, d], [d, same], [same, same, d], (d, same)):
                expect_error(self, Mismatch(), lambda: groups_for_all(several, e))

    def test_new_on_each_call(self):
        d = Decision(GUESS, [1, 1])
        groups = groups_for(d, CLEAR)
        groups[0].append(7)
        groups.clear()
        self.assertEqual([groups_for(d, CLEAR), groups_for_all([d], CLEAR)], [[[0], [1]]] * 2)


class PriorsAndMixtures(unittest.TestCase):

    def check(self, payoffs, act):
        """Whether there is a prior for an act, with the evidence multiplied out."""
        kept = [list(row) for row in payoffs]
        prior, mixture = prior_for(payoffs, act), mixture_above(payoffs, act)
        self.assertIs(prior is None, mixture is not None, kept)
        numbers = mixture if prior is None else prior
        self.assertEqual(all_lists(numbers), [int] * (len(payoffs) if prior is None else len(payoffs[0])))
        self.assertGreaterEqual(min(numbers), 0)
        self.assertGreater(sum(numbers), 0)
        if prior is None:
            for state, payoff in enumerate(payoffs[act]):
                self.assertGreater(sum(weight * row[state] for weight, row in zip(mixture, payoffs)),
                                   sum(mixture) * payoff, kept)
        else:
            means = [sum(weight * payoff for weight, payoff in zip(prior, row)) for row in payoffs]
            self.assertEqual(means[act], max(means), kept)
        self.assertEqual([prior_for(in_tuples(payoffs), act), mixture_above(in_tuples(payoffs), act)], [prior, mixture])
        self.assertEqual(payoffs, kept)
        return prior is not None

    def test_plain_ones(self):
        cases = [
            ([[5]], 0, True), ([[5], [5]], 1, True), ([[5], [6]], 0, False), ([[5], [6]], 1, True),
            ([[0, 0]], 0, True), ([[-3, -1, -2, -9]], 0, True),
            # Best at one prior only, as good as another act, worse in one state only.
            ([[2, 0], [0, 2], [1, 1]], 2, True), ([[1, 1], [1, 1]], 0, True), ([[1, 1], [1, 2]], 0, True),
            ([[2, 2], [1, 2]], 1, True), ([[2, 0], [0, 2], [2, 0]], 2, True),
            # Worse everywhere than an act; worse than a mixture only.
            ([[1, 1], [2, 2]], 0, False), ([[2, 0], [0, 2], [0, 0]], 2, False), ([[3, 0], [0, 3], [1, 1]], 2, False),
            ([[4, 0, 0], [0, 4, 0], [0, 0, 4], [1, 1, 1]], 3, False), ([[3, 0, 0], [0, 3, 0], [0, 0, 3], [1, 1, 1]], 3, True),
            ([[4, 0, 0], [0, 4, 0], [1, 1, 0]], 2, True), ([[3, 0], [0, 3], [1, 1]], 0, True),
        ]
        for payoffs, act, expected in cases:
            with self.subTest(payoffs=payoffs, act=act):
                self.assertIs(self.check(payoffs, act), expected)
        self.assertEqual(prior_for([[2, 0], [0, 2], [1, 1]], 2), [1, 1])
        self.assertEqual(mixture_above([[1, 1], [2, 2]], 0), [0, 1])
        self.assertEqual([prior_for(act=0, payoffs=[[7]]), mixture_above(act=0, payoffs=[[7]])], [[1], None])

    def test_many(self):
        rng = random.Random(119)
        found = {}
        for _ in range(400):
            states = rng.randint(1, 4)
            payoffs = some_payoffs(rng, rng.randint(1, 6), states)
            for act in range(len(payoffs)):
                answer = (states, self.check(payoffs, act))
                found[answer] = found.get(answer, 0) + 1
        self.assertEqual(len(found), 8)
        self.assertGreater(min(found.values()), 10)

    def test_new_on_each_call(self):
        prior_for([[1, 1]], 0).clear()
        mixture_above([[1, 1], [2, 2]], 0).clear()
        self.assertEqual([len(prior_for([[1, 1]], 0)), mixture_above([[1, 1], [2, 2]], 0)], [2, [0, 1]])

    def test_errors(self):
        for deed in (prior_for, mixture_above):
            for act in (0, 7, None):
                expect_error(self, BadSize(0), lambda: deed([], act))
                expect_error(self, BadSize(0), lambda: deed((), act))
                for index, payoffs in BAD_PAYOFFS:
                    with self.subTest(payoffs=payoffs):
                        expect_error(self, BadPayoffs(index), lambda: deed(payoffs, act))
                        expect_error(self, BadPayoffs(index), lambda: deed(tuple(payoffs), act))
            for wrong in [-1, 2, 6, BIG, -BIG, *NO_INTEGERS]:
                expect_error(self, NoAct(wrong), lambda: deed(GUESS, wrong))


if __name__ == "__main__":
    unittest.main()
