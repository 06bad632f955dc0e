"""Points [7], [8] and [101] to [105]: experiments put together."""

import random
import unittest
from fractions import Fraction

from everydecider import experiments, together
from everydecider.comparing import never_worse
from everydecider.errors import BadSize, BadTimes, BadWeights, Mismatch, NoState, TooMany
from everydecider.experiments import Experiment, revealing, uninformative
from everydecider.fewacts import acts_needed, never_worse_for
from everydecider.garblings import Garbling, garbled, unchanged
from everydecider.polygons import corners
from everydecider.standard import alike, split
from everydecider.together import again, at_states, blended, both, both_garblings, one_of, side_by_side
from tests.examples import expect_error, run_examples
from tests.limits import in_time
from tests.pairs import CLEAR, DIM, SURE
from tests.values import BIG, NO_INTEGERS, as_ratio, expect_shares, parts, shares, some_experiment, some_garbling

EXAMPLES = """
    >>> e = Experiment(4, [[3, 1], [1, 3]])
    >>> h = Experiment(2, [[2, 0], [1, 1]])
    >>> [both(e, h).unit, both(e, h).rows(), again(e, 2).rows()[0], again(e, 0) == uninformative(2)]
    [8, [[6, 0, 2, 0], [1, 1, 3, 3]], [9, 3, 3, 1], True]
    >>> [one_of([e, h], [1, 3]).rows(), blended([e, h], [2, 1]).rows(), at_states(h, [1, 1, 0]).rows()]
    [[[3, 1, 12, 0], [1, 3, 6, 6]], [[5, 1], [2, 4]], [[1, 1], [1, 1], [2, 0]]]
"""
FIVE = Experiment(5, [[1] * 5] * 2)
# Shows one of three states with the probability 1 / 2; names one of the two that are not the case.
HALF = Experiment(2, [[1, 0, 0, 1], [0, 1, 0, 1], [0, 0, 1, 1]])
NOT_THIS = Experiment(2, [[0, 1, 1], [1, 0, 1], [1, 1, 0]])
BAD_WEIGHTS = [[], [1], [1, 2, 3], [0, 0], (0, 0), [-1, 2], [2, -1], [1, -BIG], None, 7, "12", {1: 1, 2: 2}, True,
               *[[wrong, 1] for wrong in NO_INTEGERS], *[[1, wrong] for wrong in NO_INTEGERS]]


def both_shares(one, other):
    """Point [101]: the products of the probabilities, in each state."""
    return [[x * y for x in row for y in line] for row, line in zip(shares(one), shares(other))]


def weighted(several, weights):
    """For each experiment and state the probabilities of its signals, and that it is the one that is done."""
    return [[[number * Fraction(weight, sum(weights)) for number in row] for row in shares(e)]
            for e, weight in zip(several, weights, strict=True)]


def some_several(rng, same_signals=False, most=4):
    states, signals = rng.randint(1, 4), rng.randint(1, 6)
    several = [some_experiment(rng, states, signals if same_signals else rng.randint(1, 6))
               for _ in range(rng.randint(1, most))]
    weights = [rng.choice([0, 1, 2, 7, 1000]) for _ in several]
    weights[rng.randrange(len(weights))] = rng.randint(1, 1000)
    return several, weights


class Examples(unittest.TestCase):

    def test_examples(self):
        run_examples(self, EXAMPLES, {**vars(experiments), **vars(together)})


class Both(unittest.TestCase):

    def test_products(self):
        rng = random.Random(101)
        for _ in range(200):
            states = rng.randint(1, 4)
            one, other = [some_experiment(rng, states, rng.randint(1, 6)) for _ in range(2)]
            kept = [one.rows(), other.rows()]
            expect_shares(self, both(one, other), both_shares(one, other))
            self.assertEqual([one.rows(), other.rows()], kept)
        self.assertEqual(both(other=SURE, one=CLEAR).rows(), [[6, 0, 2, 0], [1, 1, 3, 3]])
        self.assertEqual(both(SURE, CLEAR).rows(), [[6, 2, 0, 0], [1, 3, 1, 3]])

    def test_again(self):
        rng = random.Random(102)
        for e in [CLEAR, SURE, uninformative(3), Experiment(9, [[2, 3, 4], [9, 0, 0]]),
                  *[some_experiment(rng, states, 2) for states in (1, 2, 3, 4)]]:
            kept = e.rows()
            expected = [[Fraction(1)]] * e.states
            for times in range(7):
                if e.signals ** times <= 64:
                    expect_shares(self, again(e, times), expected)
                expected = [[x * y for x in row for y in line] for row, line in zip(expected, shares(e))]
            self.assertEqual([again(e, 0), again(times=1, e=e), again(e, 2)], [uninformative(e.states), e, both(e, e)])
            self.assertEqual(e.rows(), kept)

    def test_too_many(self):
        for one, other, count in [(5, 13, 65), (13, 5, 65), (64, 2, 128), (2, 64, 128), (64, 64, 4096), (65, 1, 65)]:
            pair = [Experiment(signals, [[1] * signals] * 2) for signals in (one, other)]
            expect_error(self, TooMany(count), lambda: both(*pair))
        for one, other in [(8, 8), (64, 1), (1, 64), (4, 16), (32, 2)]:
            pair = [Experiment(signals, [[1] * signals] * 2) for signals in (one, other)]
            self.assertEqual(both(*pair).signals, 64)
        counts = {1: (1, 2, 6), 2: (6,), 3: (3, 4), 4: (3, 4), 5: (2, 3), 6: (2, 3), 8: (2, 3)}
        for signals, several in counts.items():
            e = Experiment(signals, [[1] * signals] * 3)
            for times in several:
                if signals ** times <= 64:
                    self.assertEqual(again(e, times).signals, signals ** times)
                else:
                    expect_error(self, TooMany(signals ** times), lambda: again(e, times))
        expect_error(self, TooMany(6 ** 6), lambda: again(Experiment(6, [[1] * 6]), 6))
        many = Experiment(66, [[1] * 66] * 2)
        self.assertEqual(again(many, 0), uninformative(2))
        expect_error(self, TooMany(66), lambda: again(many, 1))

    def test_bad_times(self):
        for times in [-1, 7, 64, BIG, -BIG, *NO_INTEGERS]:
            expect_error(self, BadTimes(times), lambda: again(CLEAR, times))
            expect_error(self, BadTimes(times), lambda: again(Experiment(66, [[1] * 66] * 2), times))

    def test_mismatch(self):
        for one, other in [(1, 2), (2, 1), (2, 3), (4, 3), (1, 4)]:
            expect_error(self, Mismatch(), lambda: both(uninformative(one), revealing(other)))
            # Before the signals are counted.
            expect_error(self, Mismatch(), lambda: both(*[Experiment(9, [[1] * 9] * states)
                                                         for states in (one, other)]))

    def test_as_large_as_it_can_be(self):
        rng = random.Random(103)
        with in_time(self, 60):
            for unit in (1000, BIG):
                one, other = [Experiment(unit, [parts(rng, unit, 8, 0) for _ in range(4)]) for _ in range(2)]
                expect_shares(self, both(one, other), both_shares(one, other))
                self.assertEqual(again(Experiment(unit, [parts(rng, unit, 2, 0) for _ in range(4)]), 6).signals, 64)


class OneOf(unittest.TestCase):

    def test_one_of(self):
        rng = random.Random(104)
        for _ in range(200):
            several, weights = some_several(rng)
            kept = [[e.rows() for e in several], list(weights)]
            answer = one_of(several, weights)
            expected = [[number for rows in weighted(several, weights) for number in rows[state]]
                        for state in range(several[0].states)]
            expect_shares(self, answer, expected)
            self.assertEqual(one_of(tuple(several), tuple(weights)), answer)
            self.assertEqual([[e.rows() for e in several], weights], kept)
        self.assertEqual(one_of(weights=[0, 5], experiments=[CLEAR, SURE]).rows(), [[0, 0, 2, 0], [0, 0, 1, 1]])
        self.assertEqual(one_of([CLEAR], [1000]), CLEAR)
        self.assertEqual(one_of([CLEAR, CLEAR], [1, 2]).rows(), [[3, 1, 6, 2], [1, 3, 2, 6]])

    def test_blended(self):
        rng = random.Random(105)
        for _ in range(200):
            several, weights = some_several(rng, same_signals=True)
            kept = [[e.rows() for e in several], list(weights)]
            answer = blended(several, weights)
            expected = [[sum(rows[state][signal] for rows in weighted(several, weights))
                         for signal in range(several[0].signals)] for state in range(several[0].states)]
            expect_shares(self, answer, expected)
            self.assertEqual(blended(tuple(several), tuple(weights)), answer)
            self.assertEqual([[e.rows() for e in several], weights], kept)
        self.assertEqual(blended(weights=[2, 1], experiments=[CLEAR, SURE]).rows(), [[5, 1], [2, 4]])
        self.assertEqual([blended([DIM, CLEAR], [0, 3]), blended([SURE], [1])], [CLEAR, SURE])

    def test_bad_size(self):
        for deed in (one_of, blended):
            for several in ([], ()):
                for weights in ([], [1], [0], None):
                    expect_error(self, BadSize(0), lambda: deed(several, weights))

    def test_mismatch(self):
        two, three = CLEAR, revealing(3)
        for several in ([two, three], [three, two], [two, two, three], [two, three, two], [three, two, two]):
            for weights in ([1] * len(several), [1], [], [0, 0, 0], None):
                for deed in (one_of, blended):
                    expect_error(self, Mismatch(), lambda: deed(several, weights))
        # As many signals, but not as many states.
        for deed in (one_of, blended):
            for states in (1, 3, 4):
                for several in ([uninformative(2), uninformative(states)], [uninformative(states), uninformative(2)]):
                    expect_error(self, Mismatch(), lambda: deed(several, [1, 1]))
        for several in ([CLEAR, FIVE], [FIVE, CLEAR], [FIVE, FIVE, CLEAR], [CLEAR, FIVE, CLEAR], [FIVE, CLEAR, CLEAR]):
            for weights in ([1] * len(several), [1], [], [0, 0, 0], None):
                expect_error(self, Mismatch(), lambda: blended(several, weights))
        self.assertEqual(one_of([CLEAR, FIVE], [1, 1]).signals, 7)

    def test_bad_weights(self):
        many = Experiment(64, [[1] * 64] * 2)
        for weights in BAD_WEIGHTS:
            for deed in (one_of, blended):
                expect_error(self, BadWeights(), lambda: deed([CLEAR, SURE], weights))
            # Before the signals are counted.
            expect_error(self, BadWeights(), lambda: one_of([many, many], weights))
        for deed in (one_of, blended):
            for weights in ([], [0], [1, 1], [-1], [True], None):
                expect_error(self, BadWeights(), lambda: deed([CLEAR], weights))

    def test_too_many(self):
        many = Experiment(60, [[1] * 60] * 2)
        expect_error(self, TooMany(65), lambda: one_of([many, FIVE], [1, 1]))
        expect_error(self, TooMany(65), lambda: one_of([FIVE, many], [1, 0]))
        expect_error(self, TooMany(120), lambda: one_of([many, many], [0, 1]))
        expect_error(self, TooMany(65), lambda: one_of([FIVE] * 13, [1] * 13))
        self.assertEqual(one_of([many, CLEAR, SURE], [1, 0, 5]).signals, 64)
        self.assertEqual(one_of([FIVE] * 12 + [CLEAR] * 2, [1] * 14).signals, 64)
        # Where it is not seen which one is done, there are no more signals than before.
        self.assertEqual(blended([many, many], [1, 1]), many)
        self.assertEqual(blended([Experiment(66, [[1] * 66] * 2)] * 2, [1, 1]).signals, 66)


class States(unittest.TestCase):

    def test_at_states(self):
        e = Experiment(6, [[1, 5], [2, 4], [3, 3]])
        for chosen in [[0], [2], [0, 1, 2], [2, 1, 0], [1, 1], [1, 1, 1, 1], [0, 2, 0, 2], [2, 0]]:
            kept = list(chosen)
            expect_shares(self, at_states(e, chosen), [shares(e)[state] for state in chosen])
            self.assertEqual(at_states(e, tuple(chosen)), at_states(states=chosen, e=e))
            self.assertEqual([chosen, e.rows()], [kept, [[1, 5], [2, 4], [3, 3]]])
        # In lowest terms.
        self.assertEqual([at_states(e, [2, 2]).unit, at_states(e, [2, 2]).rows()], [2, [[1, 1], [1, 1]]])
        self.assertEqual(at_states(revealing(4), [3, 0]).rows(), [[0, 0, 0, 1], [1, 0, 0, 0]])

    def test_bad_size(self):
        for count in (0, 5, 6, 100):
            for state in (0, 7, None):
                expect_error(self, BadSize(count), lambda: at_states(CLEAR, [state] * count))
                expect_error(self, BadSize(count), lambda: at_states(CLEAR, (state,) * count))

    def test_no_state(self):
        for wrong in [-1, 2, 3, BIG, -BIG, *NO_INTEGERS]:
            for chosen in ([wrong], [0, wrong], [1, wrong, 0], [1, 0, 1, wrong], [wrong, 9], (0, wrong, -3)):
                expect_error(self, NoState(wrong), lambda: at_states(CLEAR, chosen))
        for states in (1, 3, 4):
            expect_error(self, NoState(states), lambda: at_states(revealing(states), [0, states]))


class Garblings(unittest.TestCase):

    def test_both_garblings(self):
        rng = random.Random(106)
        for _ in range(100):
            states = rng.randint(1, 4)
            one, other = [some_experiment(rng, states, rng.randint(1, 4)) for _ in range(2)]
            g, h = [some_garbling(rng, e.signals, rng.randint(1, 4)) for e in (one, other)]
            kept = [g.rows(), h.rows()]
            answer = both_garblings(g, h)
            expect_shares(self, answer, [[x * y for x in row for y in line]
                                         for row in shares(g) for line in shares(h)])
            self.assertEqual([answer.before, answer.after], [g.before * h.before, g.after * h.after])
            self.assertEqual(garbled(both(one, other), answer), both(garbled(one, g), garbled(other, h)))
            self.assertEqual([g.rows(), h.rows()], kept)
        g, h = Garbling(3, [[1, 2]]), Garbling(2, [[2, 0], [1, 1]])
        self.assertEqual(both_garblings(other=h, one=g).rows(), [[2, 0, 4, 0], [1, 1, 2, 2]])
        self.assertEqual(both_garblings(h, g).rows(), [[2, 4, 0, 0], [1, 2, 1, 2]])

    def test_side_by_side(self):
        rng = random.Random(107)
        for _ in range(100):
            several, weights = some_several(rng, most=3)
            garblings = [some_garbling(rng, e.signals, rng.randint(1, 6)) for e in several]
            kept = [g.rows() for g in garblings]
            answer = side_by_side(garblings)
            expected = []
            for at, g in enumerate(garblings):
                ahead = sum(other.after for other in garblings[:at])
                behind = sum(other.after for other in garblings[at + 1:])
                expected += [[Fraction(0)] * ahead + row + [Fraction(0)] * behind for row in shares(g)]
            expect_shares(self, answer, expected)
            self.assertEqual(side_by_side(tuple(garblings)), answer)
            self.assertEqual(garbled(one_of(several, weights), answer),
                             one_of([garbled(e, g) for e, g in zip(several, garblings)], weights))
            self.assertEqual([g.rows() for g in garblings], kept)
        self.assertEqual(side_by_side(garblings=[Garbling(3, [[1, 2]]), unchanged(2), Garbling(2, [[1, 1]])]).rows(),
                         [[2, 4, 0, 0, 0, 0], [0, 0, 6, 0, 0, 0], [0, 0, 0, 6, 0, 0], [0, 0, 0, 0, 3, 3]])
        for empty in ([], ()):
            expect_error(self, BadSize(0), lambda: side_by_side(empty))

    def test_many_signals(self):
        with in_time(self, 60):
            g = Garbling(1000, [[1] * 32 + [968]] * 32)
            self.assertEqual([side_by_side([g] * 4).before, side_by_side([g] * 4).after], [128, 132])
            self.assertEqual(both_garblings(unchanged(6), both_garblings(unchanged(6), unchanged(6))), unchanged(216))


class WhatRemains(unittest.TestCase):

    def both_ways(self, one, other, third, holds):
        """Point [105] for a pair of which the first one is never worse, or never worse for some acts."""
        self.assertIs(holds(one, other), True)
        self.assertIs(holds(both(one, third), both(other, third)), True)
        self.assertIs(holds(both(third, one), both(third, other)), True)
        for chosen in ([0], [one.states - 1, 0], [0, 0, one.states - 1], list(range(one.states))):
            self.assertIs(holds(at_states(one, chosen), at_states(other, chosen)), True)
        self.assertIs(holds(one_of([one, third], [2, 3]), one_of([other, third], [2, 3])), True)
        self.assertIs(holds(one_of([one, one], [1, 5]), one_of([other, other], [1, 5])), True)

    def test_never_worse(self):
        rng = random.Random(108)
        for _ in range(60):
            one = some_experiment(rng, rng.randint(1, 4), rng.randint(1, 3))
            other = garbled(one, some_garbling(rng, one.signals, rng.randint(1, 3)))
            third = some_experiment(rng, one.states, 2)
            self.both_ways(one, other, third, never_worse)
            self.assertIs(never_worse(again(one, 2), again(other, 2)), True)
            self.assertIs(never_worse(one, garbled(other, some_garbling(rng, other.signals, 3))), True)
            for e in (one, third):
                self.assertIs(never_worse(both(one, third), e), True)
            blend = [some_experiment(rng, one.states, 3) for _ in range(2)]
            self.assertIs(never_worse(one_of(blend, [1, 4]), blended(blend, [1, 4])), True)

    def test_never_worse_for_few_acts(self):
        rng = random.Random(109)
        one = Experiment(60, [[22, 7, 7, 10, 7, 7], [7, 22, 7, 7, 10, 7], [7, 7, 22, 7, 7, 10]])
        other = Experiment(20, [[4, 7, 7, 2], [7, 4, 7, 2], [7, 7, 4, 2]])
        self.assertEqual([acts_needed(HALF, NOT_THIS), acts_needed(one, other)], [3, 4])
        self.both_ways(HALF, NOT_THIS, some_experiment(rng, 3, 2, 0), lambda e, f: never_worse_for(e, f, 2))
        for e, f in [(both(one, uninformative(3)), both(other, uninformative(3))),
                     (at_states(one, [0, 1, 1]), at_states(other, [0, 1, 1])),
                     (one_of([one, uninformative(3)], [2, 3]), one_of([other, uninformative(3)], [2, 3]))]:
            self.assertIs(never_worse_for(e, f, 3), True)
        self.assertIs(never_worse_for(again(HALF, 2), again(NOT_THIS, 2), 2), True)
        self.assertIs(never_worse_for(again(HALF, 2), both(HALF, NOT_THIS), 2), True)
        for _ in range(5):
            self.assertIs(never_worse_for(HALF, garbled(NOT_THIS, some_garbling(rng, 3, 4)), 2), True)
            self.assertIs(never_worse_for(one, garbled(other, some_garbling(rng, 4, 4)), 3), True)

    def test_steps_of_one_of(self):
        rng = random.Random(110)
        for _ in range(100):
            several = [some_experiment(rng, 2, rng.randint(1, 4)) for _ in range(rng.randint(1, 3))]
            several.append(split(several[0], 0, [1, 2]))
            weights = [rng.randint(1, 9) for _ in several]
            pairs = {}
            for e, weight in zip(several, weights):
                found = [[Fraction(*number) for number in point] for point in corners(e)]
                for (x, y), (right, high) in zip(found, found[1:]):
                    step = [(right - x) * weight / sum(weights), (high - y) * weight / sum(weights)]
                    known = pairs.setdefault(step[1] / sum(step), [0, 0])
                    known[:] = [known[0] + step[0], known[1] + step[1]]
            expected = [(Fraction(0), Fraction(0))]
            for slope in sorted(pairs):
                expected.append(tuple(number + more for number, more in zip(expected[-1], pairs[slope])))
            answer = corners(one_of(several, weights))
            self.assertEqual(answer, [(as_ratio(Fraction(x)), as_ratio(Fraction(y))) for x, y in expected])

    def test_alike(self):
        self.assertIs(alike(both(CLEAR, SURE), both(SURE, CLEAR)), True)
        self.assertIs(alike(one_of([CLEAR, SURE], [1, 2]), one_of([SURE, CLEAR], [2, 1])), True)
        self.assertIs(alike(one_of([CLEAR, CLEAR], [1, 2]), CLEAR), True)


if __name__ == "__main__":
    unittest.main()
