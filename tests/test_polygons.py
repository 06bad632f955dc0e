"""Points [7], [8] and [91] to [94]: experiments with two states as polygons."""

import random
import unittest
from fractions import Fraction

from everydecider import experiments, polygons
from everydecider.comparing import never_worse, order
from everydecider.errors import BadCorners, NotTwoStates
from everydecider.experiments import Experiment, revealing, uninformative
from everydecider.garblings import garbled, renaming
from everydecider.polygons import corners, covers, from_corners, height_at, join, meet
from everydecider.standard import alike, split, standard
from tests.examples import expect_error, run_examples
from tests.limits import in_time
from tests.pairs import CLEAR, DIM, SURE, alike_with
from tests.values import BIG, as_ratio, expect_shares, parts, shares, some_experiment, some_garbling, turned

EXAMPLES = """
    >>> e = Experiment(4, [[3, 1], [1, 3]])
    >>> h = Experiment(2, [[2, 0], [1, 1]])
    >>> [corners(e), corners(h), height_at(h, (1, 2)), covers(e, h)]
    [[((0, 1), (0, 1)), ((3, 4), (1, 4)), ((1, 1), (1, 1))], [((0, 1), (0, 1)), ((1, 1), (1, 2)), ((1, 1), (1, 1))], (1, 4), False]
    >>> [corners(meet(e, h))[1:-1], corners(join(e, h))[1:-1], from_corners(corners(h)).rows()]
    [[((4, 5), (2, 5))], [((3, 4), (1, 4)), ((1, 1), (1, 2))], [[2, 0], [1, 1]]]
"""
START, END = ((0, 1), (0, 1)), ((1, 1), (1, 1))
MIDDLE = ((1, 2), (1, 3))
# What is no tuple of two ratios.
NO_POINTS = [None, True, 1, "12", (), [(3, 4), (5, 6)], ((3, 4),), ((3, 4), (5, 6), (1, 1)), ((6, 8), (5, 6)), (3, 4),
             ((3, 4), (10, 12)), ((-3, -4), (5, 6)), ((3, 4), (5, 0)), ((1, 0), (5, 6)), ((3, 4), [5, 6]), ((3, 4), 1),
             ([3, 4], (5, 6)), ((True, 1), (1, 1)), ((1, True), (1, 1)), ((3, 4, 1), (5, 6)), ((3, 4), (5,)),
             ((3, 4), None), ((3, 4), "56"), ((3, 4), ("5", 6)), {(3, 4): 0, (5, 6): 0}]
# The mirror image of SURE: a signal that comes in state 1 only.
LATE = Experiment(2, [[1, 1], [0, 2]])


def steps(e):
    """Point [91] with fractions: the probabilities of signals, proportional ones added, the flattest first."""
    pairs = sorted(((x, y) for x, y in turned(shares(e)) if x + y), key=lambda pair: pair[1] / sum(pair))
    answer = []
    for x, y in pairs:
        if answer and answer[-1][0] * y == answer[-1][1] * x:
            x, y = x + answer[-1][0], y + answer.pop()[1]
        answer.append((x, y))
    return answer


def points(e):
    """The corners with fractions."""
    answer = [(Fraction(0), Fraction(0))]
    for x, y in steps(e):
        answer.append((answer[-1][0] + x, answer[-1][1] + y))
    return answer


def height(e, x):
    """The least sum in state 1 of parts of signals whose sum in state 0 is x: take those that cost least."""
    answer = Fraction(0)
    for wide, high in steps(e):
        part = min(wide, x)
        if wide:
            answer += high * part / wide
            x -= part
    return answer


def in_ratios(several):
    return [(as_ratio(Fraction(x)), as_ratio(Fraction(y))) for x, y in several]


def some_two(rng, most=4):
    return some_experiment(rng, 2, rng.randint(1, most), rng.choice([0, 0.3, 0.6]))


class Examples(unittest.TestCase):

    def test_examples(self):
        run_examples(self, EXAMPLES, {**vars(experiments), **vars(polygons)})


class Corners(unittest.TestCase):

    def check(self, e):
        kept = e.rows()
        answer = corners(e)
        self.assertEqual(answer, in_ratios(points(e)), kept)
        self.assertEqual([answer[0], answer[-1]], [START, END])
        self.assertEqual([type(answer), {type(point) for point in answer}], [list, {tuple}])
        again = from_corners(answer)
        expect_shares(self, again, turned([list(step) for step in steps(e)]))
        self.assertEqual([standard(again), corners(again)], [standard(e), answer])
        self.assertIs(alike(again, e), True)
        self.assertEqual(from_corners(tuple(answer)), again)
        self.assertEqual(e.rows(), kept)
        return answer[1:-1]

    def test_plain_ones(self):
        half = Fraction(1, 2)
        cases = [
            (uninformative(2), []), (Experiment(7, [[1, 2, 0, 4]] * 2), []), (revealing(2), [(1, 0)]),
            (Experiment(1, [[0, 1], [1, 0]]), [(1, 0)]), (CLEAR, [(Fraction(3, 4), Fraction(1, 4))]),
            # A step with x = 0, one with y = 0, both.
            (SURE, [(1, half)]), (LATE, [(half, 0)]),
            (Experiment(2, [[1, 1, 0], [0, 1, 1]]), [(half, 0), (1, half)]),
            (Experiment(2, [[0, 1, 1], [1, 1, 0]]), [(half, 0), (1, half)]),
            # Proportional columns and signals that never come.
            (Experiment(8, [[0, 3, 3, 0, 2], [0, 1, 1, 0, 6]]), [(Fraction(3, 4), Fraction(1, 4))]),
            (Experiment(8, [[2, 2, 0, 0, 4], [0, 0, 1, 3, 4]]), [(half, 0), (1, half)]),
        ]
        for e, inner in cases:
            with self.subTest(e=e.rows()):
                self.assertEqual(self.check(e), in_ratios(inner))

    def test_many(self):
        rng = random.Random(91)
        for _ in range(300):
            e = some_two(rng, 6)
            self.check(e)
            self.assertEqual(corners(alike_with(rng, e)), corners(e))

    def test_alike_exactly_if_the_corners_are_equal(self):
        rng = random.Random(92)
        for _ in range(100):
            one, other = some_two(rng, 2), some_two(rng, 2)
            self.assertIs(corners(one) == corners(other), order(one, other) == "alike")

    def test_new_on_each_call(self):
        answer = corners(e=CLEAR)
        answer.pop()
        self.assertEqual(len(corners(CLEAR)), 3)
        kept = corners(CLEAR)
        self.assertEqual([from_corners(points=kept), kept], [from_corners(kept), corners(CLEAR)])

    def test_more_signals_and_large_units(self):
        rng = random.Random(93)
        with in_time(self, 60):
            for unit in (1000, BIG, BIG ** 5):
                one, other = [Experiment(unit, [parts(rng, unit, 64, 0.1) for _ in range(2)]) for _ in range(2)]
                self.check(one)
                for e in (meet(one, other), join(one, other)):
                    self.check(e)
                self.assertEqual([covers(one, meet(one, other)), covers(join(one, other), other)], [True, True])


class BadOnes(unittest.TestCase):

    def refuse(self, index, several):
        with self.subTest(several=several):
            expect_error(self, BadCorners(index), lambda: from_corners(several))
            expect_error(self, BadCorners(index), lambda: from_corners(tuple(several)))

    def test_too_few_or_a_wrong_first_point(self):
        for first in [END, ((1, 2), (1, 3)), ((0, 1), (1, 2)), ((1, 2), (0, 1)), ((-1, 2), (0, 1)), *NO_POINTS,
                      [(0, 1), (0, 1)], ((0, 2), (0, 1)), ((False, 1), (0, 1)), ((0, 1), (0, True)), (0, 0)]:
            self.refuse(0, [first, END])
            self.refuse(0, [first])
            self.refuse(0, [first, START, END])
        self.refuse(0, [])
        self.refuse(0, [START])

    def test_what_is_no_point(self):
        for wrong in NO_POINTS:
            self.refuse(1, [START, wrong])
            self.refuse(1, [START, wrong, END])
            self.refuse(2, [START, MIDDLE, wrong])
            self.refuse(2, [START, MIDDLE, wrong, wrong, END])
            self.refuse(2, [START, END, wrong])

    def test_not_greater_than_the_point_before(self):
        self.refuse(1, [START, START])
        self.refuse(1, [START, START, END])
        self.refuse(2, [START, MIDDLE, MIDDLE, END])
        self.refuse(2, [START, MIDDLE, ((1, 4), (1, 2)), END])
        self.refuse(2, [START, MIDDLE, ((2, 3), (1, 4)), END])
        self.refuse(2, [START, MIDDLE, ((2, 3), (-1, 1)), END])
        self.refuse(2, [START, MIDDLE, ((1, 2), (1, 4)), END])
        self.refuse(2, [START, MIDDLE, ((1, 4), (1, 3)), END])
        self.refuse(1, [START, ((-1, 2), (1, 2)), END])
        self.refuse(1, [START, ((1, 2), (-1, 2)), END])
        self.refuse(1, [START, ((0, 1), (-1, 2)), END])
        self.refuse(1, [START, ((-1, 2), (0, 1)), END])
        self.refuse(2, [START, END, START])

    def test_not_steeper_than_the_step_before(self):
        self.refuse(2, [START, ((1, 2), (1, 2)), END])
        self.refuse(2, [START, ((1, 3), (1, 2)), END])
        self.refuse(2, [START, ((1, 3), (0, 1)), ((1, 2), (0, 1)), END])
        self.refuse(2, [START, MIDDLE, ((3, 4), (1, 2)), END])
        self.refuse(3, [START, ((1, 3), (0, 1)), ((1, 2), (1, 4)), ((2, 3), (1, 2)), END])
        # A step with x = 0 is steeper than every one with another x, and not steeper than one with x = 0.
        self.refuse(2, [START, ((0, 1), (1, 2)), END])
        self.refuse(2, [START, ((0, 1), (1, 2)), ((0, 1), (1, 1)), END])
        self.refuse(2, [START, ((0, 1), (1, 2)), ((1, 1), (1, 2)), END])
        self.refuse(3, [START, ((1, 1), (1, 2)), ((1, 1), (3, 4)), END])

    def test_a_wrong_last_point(self):
        self.refuse(1, [START, MIDDLE])
        self.refuse(1, [START, ((1, 1), (1, 2))])
        self.refuse(1, [START, ((0, 1), (1, 1))])
        self.refuse(1, [START, ((1, 1), (2, 1))])
        self.refuse(1, [START, ((2, 1), (1, 1))])
        self.refuse(2, [START, ((1, 2), (1, 8)), ((1, 1), (1, 2))])
        self.refuse(2, [START, MIDDLE, ((2, 1), (3, 1))])

    def test_a_point_behind_the_end(self):
        for behind in [((1, 1), (2, 1)), ((2, 1), (2, 1)), ((3, 1), (2, 1)), ((2, 1), (3, 1)), MIDDLE, END]:
            self.refuse(2, [START, END, behind])
        self.refuse(3, [START, ((1, 1), (1, 2)), END, ((1, 1), (2, 1))])
        self.refuse(3, [START, END, ((1, 1), (2, 1)), END])
        self.refuse(3, [START, MIDDLE, END, END])

    def test_right_ones(self):
        for inner, rows in [([], [[1], [1]]), ([MIDDLE], [[3, 3], [2, 4]]), ([((1, 1), (0, 1))], [[1, 0], [0, 1]]),
                            ([((1, 2), (0, 1)), ((1, 1), (1, 2))], [[1, 1, 0], [0, 1, 1]]),
                            ([((1, 3), (0, 1)), ((1, 2), (1, 8))], [[8, 4, 12], [0, 3, 21]])]:
            self.assertEqual(from_corners([START, *inner, END]).rows(), rows)

    def test_not_two_states(self):
        two = uninformative(2)
        for states in (1, 3, 4):
            e = uninformative(states)
            expect_error(self, NotTwoStates(states), lambda: corners(e))
            expect_error(self, NotTwoStates(states), lambda: height_at(e, (1, 2)))
            for deed in (covers, meet, join):
                expect_error(self, NotTwoStates(states), lambda: deed(e, two))
                expect_error(self, NotTwoStates(states), lambda: deed(two, e))
                expect_error(self, NotTwoStates(states), lambda: deed(e, e))
                for other in (1, 3, 4):
                    expect_error(self, NotTwoStates(states), lambda: deed(e, uninformative(other)))


class Heights(unittest.TestCase):

    def test_plain_ones(self):
        cases = [
            (CLEAR, [(0, 1), (1, 12), (1, 6), (1, 4), (7, 10), (1, 1)]),
            (SURE, [(0, 1), (1, 8), (1, 4), (3, 8), (9, 20), (1, 2)]),
            (LATE, [(0, 1), (0, 1), (0, 1), (1, 2), (4, 5), (1, 1)]),
            (uninformative(2), [(0, 1), (1, 4), (1, 2), (3, 4), (9, 10), (1, 1)]),
            (revealing(2), [(0, 1)] * 6),
        ]
        for e, heights in cases:
            self.assertEqual([height_at(e, x) for x in [(0, 1), (1, 4), (1, 2), (3, 4), (9, 10), (1, 1)]], heights)
        self.assertEqual(height_at(x=(7, 8), e=CLEAR), (5, 8))

    def test_many(self):
        rng = random.Random(94)
        for _ in range(200):
            e = some_two(rng, 6)
            found = corners(e)
            for x, y in found:
                self.assertEqual(height_at(e, x), as_ratio(height(e, Fraction(*x))))
                # At x = 1 there may be another corner below.
                self.assertLessEqual(Fraction(*height_at(e, x)), Fraction(*y))
            for x in [Fraction(0), Fraction(1), *[Fraction(rng.randint(0, 97), 97) for _ in range(5)]]:
                self.assertEqual(height_at(e, as_ratio(x)), as_ratio(height(e, x)))

    def test_covers(self):
        rng = random.Random(95)
        found = {True: 0, False: 0}
        for _ in range(300):
            one = some_two(rng)
            other = garbled(one, some_garbling(rng, one.signals, rng.randint(1, 4))) if rng.random() < 0.4 \
                else some_two(rng)
            kept = [one.rows(), other.rows()]
            for pair in ((one, other), (other, one), (one, one), (one, alike_with(rng, one))):
                answer = covers(*pair)
                self.assertIs(answer, never_worse(*pair))
                found[answer] += 1
            self.assertEqual([one.rows(), other.rows()], kept)
        self.assertGreater(min(found.values()), 100)
        self.assertEqual([covers(other=SURE, one=CLEAR), covers(other=DIM, one=CLEAR)], [False, True])


class MeetAndJoin(unittest.TestCase):

    def check(self, one, other, drawn):
        kept = [one.rows(), other.rows()]
        low, high = meet(one, other), join(one, other)
        self.assertEqual([meet(other, one), join(other, one), standard(low), standard(high)], [low, high, low, high])
        self.assertEqual([meet(one, other), join(one, other)], [low, high])
        for e in (low, high):
            expect_shares(self, e, shares(e))
        # The common part of both polygons has the greater height everywhere.
        for x in {x for e in (one, other, low, high) for x, _ in points(e)} | {Fraction(at, 23) for at in range(24)}:
            self.assertEqual(height(low, x), max(height(one, x), height(other, x)), kept)
            self.assertLessEqual(height(high, x), min(height(one, x), height(other, x)), kept)
        # The least polygon that contains both has no other corners.
        self.assertLessEqual(set(corners(high)), set(corners(one) + corners(other)), kept)
        for e in (one, other):
            self.assertEqual([never_worse(e, low), never_worse(high, e)], [True, True])
        below = [e for e in drawn if never_worse(one, e) and never_worse(other, e)]
        above = [e for e in drawn if never_worse(e, one) and never_worse(e, other)]
        self.assertEqual([e.rows() for e in below if not never_worse(low, e)], [])
        self.assertEqual([e.rows() for e in above if not never_worse(e, high)], [])
        self.assertEqual([one.rows(), other.rows()], kept)
        return len(below), len(above)

    def test_all_four_orders(self):
        three = Experiment(2, [[1, 1, 0], [0, 1, 1]])
        several = [CLEAR, DIM, SURE, LATE, three, uninformative(2), revealing(2), split(CLEAR, 0, [1, 2, 0]),
                   Experiment(10, [[0, 4, 3, 3], [1, 1, 2, 6]]), garbled(CLEAR, renaming([1, 0]))]
        words = set()
        for one in several:
            for other in several:
                self.check(one, other, several)
                word = order(one, other)
                words.add(word)
                better, worse = (other, one) if word == "worse" else (one, other)
                if word != "apart":
                    self.assertEqual([meet(one, other), join(one, other)], [standard(worse), standard(better)])
        self.assertEqual(words, {"alike", "better", "worse", "apart"})
        self.assertEqual(join(SURE, LATE), standard(three))
        self.assertEqual(meet(SURE, LATE).rows(), [[1, 2], [2, 1]])
        self.assertEqual(meet(other=LATE, one=CLEAR), meet(CLEAR, LATE))
        self.assertEqual(join(other=LATE, one=CLEAR), join(CLEAR, LATE))

    def test_many(self):
        rng = random.Random(96)
        below = above = apart = 0
        for number in range(80):
            one, other = some_two(rng, 5), some_two(rng, 5)
            while number % 2 and order(one, other) != "apart":
                one, other = some_two(rng, 5), some_two(rng, 5)
            apart += order(one, other) == "apart"
            drawn = [some_two(rng, 3) for _ in range(4)]
            drawn += [garbled(one, some_garbling(rng, one.signals, 3, 0)),
                      garbled(other, some_garbling(rng, other.signals, 3, 0))]
            # Much like one of both, and more than that.
            for e in (one, other):
                drawn.append(Experiment(12 * e.unit, [[11 * number for number in row] + [
                    e.unit * (state == at) for at in range(2)] for state, row in enumerate(e.rows())]))
            found = self.check(one, other, drawn)
            below, above = below + found[0], above + found[1]
        self.assertGreater(min(below, above, apart), 30, (below, above, apart))

    def test_what_the_package_returned_is_passed_in_again(self):
        rng = random.Random(97)
        several = [some_two(rng, 6) for _ in range(6)]
        with in_time(self, 60):
            low, high = several[0], several[0]
            for e in several[1:]:
                self.check(low, e, [high])
                low, high = meet(low, e), join(high, e)
            for e in several:
                self.assertEqual([covers(e, low), covers(high, e)], [True, True])
                self.assertEqual([meet(e, high), join(e, low)], [standard(e), standard(e)])


if __name__ == "__main__":
    unittest.main()
