"""Points [7], [8] and [121] to [123]: deciders with two acts."""

import random
import unittest
from itertools import combinations

from everydecider import comparing, experiments, twoacts
from everydecider.comparing import never_worse
from everydecider.decisions import Decision
from everydecider.errors import Mismatch
from everydecider.experiments import Experiment, revealing, uninformative
from everydecider.fewacts import act_against, never_worse_for
from everydecider.garblings import Garbling, garbled
from everydecider.twoacts import never_worse_for_two, share_paper, shows_shares, two_act_against
from tests.examples import expect_error, run_examples
from tests.limits import in_time
from tests.pairs import CLEAR, DIM, SURE, some_pairs, worth
from tests.values import BIG, NO_INTEGERS, parts, some_experiment

EXAMPLES = """
    >>> half = Experiment(2, [[1, 0, 0, 1], [0, 1, 0, 1], [0, 0, 1, 1]])
    >>> wrong = Experiment(2, [[0, 1, 1], [1, 0, 1], [1, 1, 0]])
    >>> [never_worse_for_two(half, wrong), never_worse(half, wrong), two_act_against(half, wrong)]
    [True, False, None]
    >>> paper = share_paper(half, wrong)
    >>> [len(paper), shows_shares(half, wrong, paper), never_worse_for_two(wrong, half), two_act_against(wrong, half).acts]
    [8, True, False, 2]
"""
# Shows one of three states with the probability 1 / 2; names one of the two that are not the case.
HALF = Experiment(2, [[1, 0, 0, 1], [0, 1, 0, 1], [0, 0, 1, 1]])
WRONG = Experiment(2, [[0, 1, 1], [1, 0, 1], [1, 1, 0]])


def all_sets(count):
    return [chosen for size in range(count + 1) for chosen in combinations(range(count), size)]


def are_shares(one, other, chosen, unit, numbers):
    """Point [122]: shares from 0 to 1, multiplied out."""
    return unit >= 1 and len(numbers) == one.signals and all(0 <= number <= unit for number in numbers) and all(
        sum(part * number for part, number in zip(numbers, row)) * other.unit ==
        sum(line[signal] for signal in chosen) * unit * one.unit for row, line in zip(one.rows(), other.rows()))


class Examples(unittest.TestCase):

    def test_examples(self):
        run_examples(self, EXAMPLES, {**vars(experiments), **vars(comparing), **vars(twoacts)})


class TwoActs(unittest.TestCase):

    def check(self, one, other):
        """Whether one experiment is never worse for two acts, with the evidence for it looked at."""
        kept = [one.rows(), other.rows()]
        paper, decision = share_paper(one, other), two_act_against(one, other)
        self.assertIs(paper is None, decision is not None, kept)
        self.assertIs(never_worse_for_two(one, other), decision is None)
        # All ways to the answer agree.
        self.assertIs(never_worse_for(one, other, 2), decision is None)
        self.assertIs(act_against(one, other, 2) is None, decision is None)
        if decision is None:
            self.assertIs(type(paper), dict)
            self.assertEqual(sorted(paper), sorted(all_sets(other.signals)))
            for chosen, worth_of_it in paper.items():
                unit, numbers = worth_of_it
                self.assertEqual([type(chosen), type(worth_of_it), type(unit), type(numbers)], [tuple, tuple, int, list])
                self.assertEqual({type(number) for number in [*chosen, *numbers]}, {int})
                self.assertTrue(are_shares(one, other, chosen, unit, numbers), kept)
            self.assertIs(shows_shares(one, other, paper), True)
            self.assertEqual(share_paper(one, other), paper)
        else:
            self.assertEqual([type(decision), decision.acts, decision.states], [Decision, 2, one.states])
            self.assertLess(worth(decision, one), worth(decision, other), kept)
            self.assertEqual(two_act_against(one, other), decision)
            self.assertIs(never_worse(one, other), False)
        self.assertEqual([one.rows(), other.rows()], kept)
        return decision is None

    def test_plain_pairs(self):
        four = Experiment(3, [[0, 1, 1, 1], [1, 0, 1, 1], [1, 1, 0, 1], [1, 1, 1, 0]])
        part = Experiment(3, [[1, 0, 0, 0, 2], [0, 1, 0, 0, 2], [0, 0, 1, 0, 2], [0, 0, 0, 1, 2]])
        cases = [
            (HALF, WRONG, True), (WRONG, HALF, False), (CLEAR, DIM, True), (DIM, CLEAR, False), (CLEAR, SURE, False),
            (SURE, CLEAR, False), (CLEAR, CLEAR, True), (part, four, True), (four, part, False),
            (uninformative(2), revealing(2), False), (revealing(4), four, True), (uninformative(1), uninformative(1), True),
            (uninformative(3), Experiment(5, [[2, 0, 3]] * 3), True), (Experiment(7, [[0, 7]]), uninformative(1), True),
            (Experiment(2, [[0, 2, 0], [0, 1, 1]]), SURE, True), (SURE, Experiment(2, [[0, 2, 0], [0, 1, 1]]), True),
        ]
        for one, other, expected in cases:
            with self.subTest(one=one.rows(), other=other.rows()):
                self.assertIs(self.check(one, other), expected)

    def test_many_pairs(self):
        found = {}
        for one, other in some_pairs(121, 250):
            for pair in ((one, other), (other, one)):
                answer = (one.states, self.check(*pair), never_worse(*pair))
                found[answer] = found.get(answer, 0) + 1
        # With one or two states never worse for two acts is never worse.
        self.assertEqual([key for key in sorted(found) if key[0] <= 2],
                         [(1, True, True), (2, False, False), (2, True, True)])
        for states in (2, 3, 4):
            self.assertGreater(min(found[states, False, False], found[states, True, True]), 10)

    def test_never_worse_for_two_acts_only(self):
        rng = random.Random(122)
        found = {True: 0, False: 0}
        for _ in range(60):
            part = rng.randint(35, 65)
            one = Experiment(100, [[part * (state == signal) for signal in range(3)] + [100 - part]
                                   for state in range(3)])
            other = garbled(WRONG, Garbling(9, [parts(rng, 9, 3, 0.3) for _ in range(3)]))
            found[self.check(one, other) and not never_worse(one, other)] += 1
        self.assertGreater(min(found.values()), 5)

    def test_what_the_package_returned_is_passed_in_again(self):
        rng = random.Random(123)
        e = some_experiment(rng, 3, 6, 0)
        f = garbled(e, Garbling(1000, [parts(rng, 1000, 6, 0) for _ in range(6)]))
        h = garbled(f, Garbling(1000, [parts(rng, 1000, 6, 0) for _ in range(6)]))
        self.assertEqual([self.check(e, f), self.check(f, h), self.check(e, h), self.check(h, f)],
                         [True, True, True, False])

    def test_as_large_as_callers_may_pass_them(self):
        rng = random.Random(124)
        with in_time(self, 60):
            for _ in range(3):
                e, f = [Experiment(1000, [parts(rng, 1000, 6, 0.1) for _ in range(4)]) for _ in range(2)]
                self.check(e, f)
                self.assertIs(self.check(e, garbled(e, Garbling(1000, [parts(rng, 1000, 6, 0.1) for _ in range(6)]))),
                              True)

    def test_mismatch(self):
        for one, other in [(1, 2), (2, 1), (2, 3), (4, 3), (1, 4)]:
            pair = (uninformative(one), uninformative(other))
            for deed in (never_worse_for_two, two_act_against, share_paper):
                expect_error(self, Mismatch(), lambda: deed(*pair))
            expect_error(self, Mismatch(), lambda: shows_shares(*pair, {}))

    def test_arguments_by_name(self):
        self.assertIs(never_worse_for_two(other=DIM, one=CLEAR), True)
        self.assertEqual(two_act_against(other=CLEAR, one=DIM), two_act_against(DIM, CLEAR))
        self.assertIs(shows_shares(paper=share_paper(other=DIM, one=CLEAR), other=DIM, one=CLEAR), True)

    def test_new_on_each_call(self):
        paper = share_paper(HALF, WRONG)
        for _, numbers in paper.values():
            numbers.clear()
        paper.clear()
        self.assertIs(shows_shares(HALF, WRONG, share_paper(HALF, WRONG)), True)


class JudgingPapers(unittest.TestCase):

    def setUp(self):
        self.paper = share_paper(HALF, WRONG)

    def judge(self, paper):
        answer = shows_shares(HALF, WRONG, paper)
        self.assertIs(type(answer), bool)
        return answer

    def with_part(self, chosen, at, number):
        unit, numbers = self.paper[chosen]
        return {**self.paper, chosen: (unit, numbers[:at] + [number] + numbers[at + 1:])}

    def test_right_ones(self):
        self.assertIs(self.judge(self.paper), True)
        self.assertIs(self.judge({chosen: self.paper[chosen] for chosen in reversed(list(self.paper))}), True)
        self.assertIs(self.judge({chosen: (3 * unit, [3 * number for number in numbers])
                                  for chosen, (unit, numbers) in self.paper.items()}), True)
        self.assertIs(self.judge({chosen: (unit, tuple(numbers)) for chosen, (unit, numbers) in self.paper.items()}), True)
        by_hand = {(): (1, [0, 0, 0, 0]), (0,): (2, [0, 2, 2, 0]), (1,): (1, [1, 0, 1, 0]), (2,): (1, [1, 1, 0, 0]),
                   (0, 1): (1, [0, 0, 1, 1]), (0, 2): (5, [0, 5, 0, 5]), (1, 2): (1, [1, 0, 0, 1]),
                   (0, 1, 2): (BIG, [BIG] * 4)}
        self.assertIs(self.judge(by_hand), True)

    def test_keys(self):
        for chosen in all_sets(3):
            without = {key: worth_of_it for key, worth_of_it in self.paper.items() if key != chosen}
            self.assertIs(self.judge(without), False)
            if len(chosen) > 1:
                self.assertIs(self.judge({**without, chosen[::-1]: self.paper[chosen]}), False)
            self.assertIs(self.judge({**without, (3,): self.paper[chosen]}), False)
            self.assertIs(self.judge({**without, (0, *chosen, 0): self.paper[chosen]}), False)
        for more in [(3,), (0, 0), (1, 0), (2, 1, 0), (-1,), (0, 1, 2, 3)]:
            self.assertIs(self.judge({**self.paper, more: (1, [0, 0, 0, 0])}), False)
        for paper in ({}, {(): (1, [0] * 4)}, None):
            self.assertIs(self.judge(paper), False)

    def test_parts(self):
        for chosen in all_sets(3):
            unit, numbers = self.paper[chosen]
            for at in range(4):
                for number in (numbers[at] - 1, numbers[at] + 1, -1, -unit, unit + 1, 2 * unit, BIG, *NO_INTEGERS):
                    self.assertIs(self.judge(self.with_part(chosen, at, number)), False, (chosen, at, number))
            for wrong in (numbers[:-1], numbers[1:], numbers + [0], [0] + numbers, [], None):
                self.assertIs(self.judge({**self.paper, chosen: (unit, wrong)}), False)

    def test_the_sums_may_be_right_where_a_part_is_not(self):
        # In each state the same sum as with [1, 0, 1, 0], but with parts below 0 and above the unit.
        self.assertIs(self.judge({**self.paper, (1,): (1, [1, 0, 1, 0])}), True)
        self.assertIs(self.judge({**self.paper, (1,): (1, [2, 1, 2, -1])}), False)
        self.assertIs(self.judge({**self.paper, (1,): (1, [0, -1, 0, 1])}), False)
        self.assertIs(self.judge({**self.paper, (1,): (2, [1, -1, 1, 1])}), False)
        self.assertIs(self.judge({**self.paper, (0, 1, 2): (2, [1, 1, 1, 3])}), False)
        self.assertIs(self.judge({**self.paper, (0, 1, 2): (2, [3, 3, 3, 1])}), False)

    def test_units(self):
        for chosen in all_sets(3):
            unit, numbers = self.paper[chosen]
            for wrong in (0, -unit, -1, -BIG, *NO_INTEGERS):
                self.assertIs(self.judge({**self.paper, chosen: (wrong, numbers)}), False)
                self.assertIs(self.judge({**self.paper, chosen: (wrong, [0] * 4)}), False)
            self.assertIs(self.judge({**self.paper, chosen: (unit + 1, numbers)}), chosen == ())
        self.assertIs(self.judge({**self.paper, (): (0, [0] * 4)}), False)
        self.assertIs(self.judge({**self.paper, (): (-1, [0] * 4)}), False)

    def test_one_integer_otherwise(self):
        verdicts = {True: 0, False: 0}
        for one, other in some_pairs(125, 60, 3):
            paper = share_paper(one, other)
            for chosen in paper or ():
                unit, numbers = paper[chosen]
                for at in range(one.signals):
                    for number in (0, unit, numbers[at] + 1, numbers[at] - 1):
                        wrong = numbers[:at] + [number] + numbers[at + 1:]
                        verdict = shows_shares(one, other, {**paper, chosen: (unit, wrong)})
                        self.assertIs(verdict, are_shares(one, other, chosen, unit, wrong))
                        verdicts[verdict] += 1
        self.assertGreater(min(verdicts.values()), 100)

    def test_a_paper_for_one_pair_says_nothing_of_another_pair(self):
        self.assertIs(shows_shares(WRONG, HALF, self.paper), False)
        self.assertIs(shows_shares(HALF, revealing(3), self.paper), False)
        self.assertIs(shows_shares(revealing(3), WRONG, self.paper), False)

    def test_nothing_is_changed(self):
        kept = {chosen: (unit, list(numbers)) for chosen, (unit, numbers) in self.paper.items()}
        self.judge(self.paper)
        self.assertEqual(self.paper, kept)


if __name__ == "__main__":
    unittest.main()
