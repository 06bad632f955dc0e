"""Points [7], [8] and [81] to [85]: deciders with few acts."""

import random
import unittest
from itertools import product

from everydecider import experiments, fewacts
from everydecider.comparing import never_worse, order
from everydecider.decisions import Decision
from everydecider.errors import BadSize, Mismatch
from everydecider.experiments import Experiment, revealing, uninformative
from everydecider.fewacts import (act_against, acts_needed, best_for, merging_paper, never_worse_for, order_for,
                                  partings, shows_for)
from everydecider.garblings import Garbling, garbled, merging, unchanged
from tests.examples import expect_error, run_examples
from tests.limits import in_time
from tests.pairs import BACK, CLEAR, DIM, SURE, WORDS, alike_with, altered, makes, some_pairs, worth
from tests.values import BIG, NO_INTEGERS, parts, some_experiment, some_garbling

EXAMPLES = """
    >>> partings(3, 2)
    [((0,), (1, 2)), ((0, 1), (2,)), ((0, 2), (1,))]
    >>> part = Experiment(3, [[2, 0, 0, 0, 1], [0, 2, 0, 0, 1], [0, 0, 2, 0, 1], [0, 0, 0, 2, 1]])
    >>> less = Experiment(3, [[1, 0, 0, 0, 2], [0, 1, 0, 0, 2], [0, 0, 1, 0, 2], [0, 0, 0, 1, 2]])
    >>> wrong = Experiment(3, [[0, 1, 1, 1], [1, 0, 1, 1], [1, 1, 0, 1], [1, 1, 1, 0]])
    >>> [acts_needed(part, wrong), acts_needed(less, wrong), acts_needed(wrong, part), never_worse_for(part, wrong, 3)]
    [4, 3, 2, True]
    >>> paper = merging_paper(less, wrong, 2)
    >>> [len(paper), shows_for(less, wrong, 2, paper), act_against(part, wrong, 3), act_against(less, wrong, 3).acts]
    [7, True, None, 3]
    >>> [order_for(part, less, 2), order_for(wrong, less, 2), order_for(wrong, less, 3), best_for([less, part, wrong], 2)]
    ['better', 'worse', 'apart', [1]]
"""
NO_COUNTS = [0, -1, -BIG, *NO_INTEGERS]


def shown(states, top, bottom):
    """Shows the state with the probability top / bottom, and otherwise nothing."""
    return Experiment(bottom, [[top * (state == signal) for signal in range(states)] + [bottom - top]
                               for state in range(states)])


def named_wrong(states):
    """Names, at random, one of the states that are not the case."""
    return Experiment(states - 1, [[int(state != signal) for signal in range(states)] for state in range(states)])


PART, LESS, WRONG = shown(4, 2, 3), shown(4, 1, 3), named_wrong(4)


def all_partings(signals, groups):
    """Point [81]: all ways to give each signal a group, with the groups in the order of their first signals."""
    found = set()
    for homes in product(range(groups), repeat=signals):
        parting = [tuple(at for at in range(signals) if homes[at] == group) for group in sorted(set(homes))]
        if len(parting) == groups:
            found.add(tuple(sorted(parting)))
    return sorted(found)


def merged_experiment(e, parting):
    """Point [82]: it tells only in which group the signal is."""
    return Experiment(e.unit, [[sum(row[signal] for signal in group) for group in parting] for row in e.rows()])


class Examples(unittest.TestCase):

    def test_examples(self):
        run_examples(self, EXAMPLES, {**vars(experiments), **vars(fewacts)})


class Partings(unittest.TestCase):

    def test_all_of_them(self):
        numbers = {1: [1], 2: [1, 1], 3: [1, 3, 1], 4: [1, 7, 6, 1], 5: [1, 15, 25, 10, 1], 6: [1, 31, 90, 65, 15, 1]}
        for signals, counts in numbers.items():
            for groups, count in enumerate(counts, start=1):
                answer = partings(signals, groups)
                self.assertEqual(answer, all_partings(signals, groups))
                self.assertEqual(len(answer), count)
                self.assertEqual({type(part) for part in [*answer, *[group for part in answer for group in part]]},
                                 {tuple})
                self.assertEqual({type(at) for part in answer for group in part for at in group}, {int})

    def test_somewhat_more_signals(self):
        with in_time(self, 60):
            self.assertEqual([len(partings(8, groups)) for groups in (1, 2, 7, 8)], [1, 127, 28, 1])
            # Those that have too few groups are not built up in between.
            self.assertEqual([len(partings(40, groups)) for groups in (1, 39, 40)], [1, 780, 1])

    def test_new_on_each_call(self):
        answer = partings(signals=3, groups=2)
        self.assertIs(type(answer), list)
        answer.append(())
        answer[0] = ()
        self.assertEqual(partings(groups=2, signals=3), [((0,), (1, 2)), ((0, 1), (2,)), ((0, 2), (1,))])

    def test_bad_sizes(self):
        for wrong in NO_COUNTS:
            expect_error(self, BadSize(wrong), lambda: partings(wrong, 1))
            expect_error(self, BadSize(wrong), lambda: partings(3, wrong))
            expect_error(self, BadSize(wrong), lambda: partings(wrong, -7))
        for signals in (1, 2, 5, 6):
            for groups in (signals + 1, signals + 2, 100, BIG):
                expect_error(self, BadSize(groups), lambda: partings(signals, groups))


class FewActs(unittest.TestCase):

    def check(self, one, other, acts):
        """Whether one experiment is never worse for so many acts, with the evidence for it looked at."""
        kept = [one.rows(), other.rows()]
        paper, decision = merging_paper(one, other, acts), act_against(one, other, acts)
        self.assertIs(paper is None, decision is not None, kept)
        self.assertIs(never_worse_for(one, other, acts), decision is None)
        if decision is None:
            self.assertIs(type(paper), dict)
            self.assertEqual(sorted(paper), all_partings(other.signals, min(acts, other.signals)))
            for parting, garbling in paper.items():
                self.assertIs(type(garbling), Garbling)
                self.assertTrue(makes(one, garbling, merged_experiment(other, parting)), kept)
            self.assertIs(shows_for(one, other, acts, paper), True)
            self.assertEqual(merging_paper(one, other, acts), paper)
        else:
            self.assertIs(type(decision), Decision)
            self.assertEqual(decision.states, one.states)
            self.assertLessEqual(decision.acts, acts)
            self.assertLess(worth(decision, one), worth(decision, other), kept)
            self.assertEqual(act_against(one, other, acts), decision)
        self.assertEqual([one.rows(), other.rows()], kept)
        return decision is None

    def needed(self, one, other):
        """The acts that are needed, from the answers for each number of acts."""
        right = [self.check(one, other, acts) for acts in range(1, other.signals + 3)]
        # Point [85]: never worse for one act, and for fewer acts; as many acts as signals are enough.
        self.assertEqual(right, sorted(right, reverse=True))
        self.assertIs(right[0], True)
        self.assertEqual(set(right[other.signals - 1:]), {never_worse(one, other)})
        self.assertIs(never_worse_for(one, other, 100), right[-1])
        acts = right.index(False) + 1 if False in right else None
        self.assertEqual(acts_needed(one, other), acts)
        self.assertIn(type(acts_needed(one, other)), (int, type(None)))
        return acts

    def test_the_ladder(self):
        self.assertEqual([self.needed(PART, WRONG), self.needed(LESS, WRONG), self.needed(WRONG, PART)], [4, 3, 2])
        self.assertEqual([self.needed(WRONG, LESS), self.needed(PART, LESS), self.needed(LESS, PART)], [2, None, 2])
        self.assertEqual([self.needed(shown(3, 1, 2), named_wrong(3)), self.needed(named_wrong(3), shown(3, 1, 2))],
                         [3, 2])
        # With three states it may be more acts than there are states.
        one = Experiment(60, [[22, 7, 7, 10, 7, 7], [7, 22, 7, 7, 10, 7], [7, 7, 22, 7, 7, 10]])
        other = Experiment(20, [[4, 7, 7, 2], [7, 4, 7, 2], [7, 7, 4, 2]])
        self.assertEqual([self.needed(one, other), self.needed(other, one)], [4, 2])

    def test_plain_pairs(self):
        cases = [
            (CLEAR, DIM, None), (DIM, CLEAR, 2), (CLEAR, SURE, 2), (SURE, CLEAR, 2), (CLEAR, CLEAR, None),
            (uninformative(2), revealing(2), 2), (uninformative(4), revealing(4), 2), (revealing(4), WRONG, None),
            (uninformative(3), Experiment(5, [[2, 0, 3]] * 3), None), (uninformative(1), uninformative(1), None),
            (Experiment(7, [[0, 7]]), Experiment(2, [[1, 0, 0, 0, 0, 1]]), None),
        ]
        for one, other, acts in cases:
            with self.subTest(one=one.rows(), other=other.rows()):
                self.assertEqual(self.needed(one, other), acts)

    def test_many_pairs(self):
        found = {}
        for one, other in some_pairs(81, 150):
            forth, back = self.needed(one, other), self.needed(other, one)
            for acts in range(1, 5):
                word = WORDS[forth is None or forth > acts, back is None or back > acts]
                self.assertEqual([order_for(one, other, acts), order_for(other, one, acts)], [word, BACK[word]])
                found[acts, word] = found.get((acts, word), 0) + 1
                # Point [85]: alike for two acts is alike.
                self.assertTrue(acts == 1 or word != "alike" or order(one, other) == "alike")
            self.assertEqual(order_for(one, other, 4), order(one, other))
            if one.states <= 2:
                self.assertIn(forth, (2, None))
        self.assertEqual([word for acts, word in found if acts == 1], ["alike"])
        for acts in (2, 3, 4):
            for word in ("alike", "better", "worse", "apart"):
                self.assertGreater(found.get((acts, word), 0), 3, (acts, word))

    def test_pairs_that_need_more_than_two_acts(self):
        rng = random.Random(82)
        found = {}
        for _ in range(150):
            states = rng.choice([3, 3, 4])
            one = shown(states, rng.randint(40, 70), 100)
            other = named_wrong(states) if rng.random() < 0.5 else garbled(
                named_wrong(states), Garbling(9, [parts(rng, 9, 3, 0.3) for _ in range(states)]))
            acts = self.needed(one, other)
            found[states, acts] = found.get((states, acts), 0) + 1
        for case in [(3, 2), (3, 3), (3, None), (4, 3), (4, None)]:
            self.assertGreater(found.get(case, 0), 0, found)

    def test_what_the_package_returned_is_passed_in_again(self):
        rng = random.Random(83)
        e = some_experiment(rng, 3, 6, 0)
        f = garbled(e, Garbling(1000, [parts(rng, 1000, 4, 0) for _ in range(6)]))
        h = garbled(f, Garbling(1000, [parts(rng, 1000, 4, 0) for _ in range(4)]))
        self.assertEqual([acts_needed(e, f), acts_needed(f, h), self.needed(h, f)], [None, None, 2])
        against = act_against(h, f, 2)
        self.assertLess(worth(against, h), worth(against, f))

    def test_as_large_as_callers_may_pass_them(self):
        rng = random.Random(84)
        with in_time(self, 120):
            for _ in range(2):
                e, f = [Experiment(1000, [parts(rng, 1000, 6, 0.1) for _ in range(4)]) for _ in range(2)]
                h = garbled(e, Garbling(1000, [parts(rng, 1000, 6, 0.1) for _ in range(6)]))
                for acts in (2, 3, 4, 5, 6, 100):
                    self.check(e, f, acts)
                    self.assertIs(self.check(e, h, acts), True)
                self.assertIsNone(acts_needed(e, h))
            self.assertEqual(best_for([f, h, e, h, e], 3), [0, 2, 4])

    def test_mismatch(self):
        for one, other in [(1, 2), (2, 1), (2, 3), (4, 3), (1, 4)]:
            pair = (uninformative(one), uninformative(other))
            # Before the number of acts is looked at.
            for acts in (1, 2, 0, None, True):
                for deed in (never_worse_for, act_against, merging_paper, order_for):
                    expect_error(self, Mismatch(), lambda: deed(*pair, acts))
                expect_error(self, Mismatch(), lambda: shows_for(*pair, acts, {}))
            expect_error(self, Mismatch(), lambda: acts_needed(*pair))

    def test_bad_size(self):
        for wrong in NO_COUNTS:
            for deed in (never_worse_for, act_against, merging_paper, order_for):
                expect_error(self, BadSize(wrong), lambda: deed(CLEAR, DIM, wrong))
                expect_error(self, BadSize(wrong), lambda: deed(uninformative(1), uninformative(1), wrong))
            expect_error(self, BadSize(wrong), lambda: shows_for(CLEAR, DIM, wrong, {}))

    def test_arguments_by_name(self):
        self.assertIs(never_worse_for(acts=2, other=DIM, one=CLEAR), True)
        self.assertIsNone(act_against(acts=2, other=DIM, one=CLEAR))
        paper = merging_paper(acts=2, other=DIM, one=CLEAR)
        self.assertIs(shows_for(paper=paper, acts=2, other=DIM, one=CLEAR), True)
        self.assertEqual([acts_needed(other=CLEAR, one=DIM), order_for(acts=2, other=DIM, one=CLEAR)], [2, "better"])


class JudgingPapers(unittest.TestCase):

    def setUp(self):
        self.paper = merging_paper(LESS, WRONG, 2)

    def judge(self, paper):
        answer = shows_for(LESS, WRONG, 2, paper)
        self.assertIs(type(answer), bool)
        return answer

    def test_right_ones(self):
        self.assertIs(self.judge(self.paper), True)
        backwards = {parting: self.paper[parting] for parting in reversed(list(self.paper))}
        self.assertIs(self.judge(backwards), True)
        anew = {parting: Garbling(7 * g.unit, tuple(tuple(7 * number for number in row) for row in g.rows()))
                for parting, g in self.paper.items()}
        self.assertIs(self.judge(anew), True)

    def test_keys(self):
        for parting in self.paper:
            without = {key: g for key, g in self.paper.items() if key != parting}
            self.assertIs(self.judge(without), False)
            # The groups in another order, with the garbling that belongs to that.
            one, other = parting
            self.assertIs(self.judge({**without, (other, one): self.paper[parting] * merging([[1], [0]], 2)}), False)
            self.assertIs(self.judge({**without, (one[::-1], other[::-1]): self.paper[parting]}), len(one) == 1 ==
                          len(other))
        whole = ((0, 1, 2, 3),)
        more = {whole: Garbling(1, [[1]] * 5)}
        self.assertIs(self.judge({**self.paper, **more}), False)
        self.assertIs(self.judge({**self.paper, (): Garbling(1, [[1]] * 5)}), False)
        for paper in ({}, more, merging_paper(LESS, WRONG, 1), None):
            self.assertIs(self.judge(paper), False)
        self.assertIs(shows_for(LESS, WRONG, 1, merging_paper(LESS, WRONG, 1)), True)
        self.assertIs(shows_for(LESS, WRONG, 1, self.paper), False)
        self.assertIs(shows_for(LESS, WRONG, 3, self.paper), False)

    def test_garblings(self):
        kept = dict(self.paper)
        for parting, garbling in kept.items():
            rows = garbling.rows()
            wider = Garbling(garbling.unit, [row + [0] for row in rows])
            longer = Garbling(garbling.unit, rows + [rows[0]])
            turned_round = garbling * merging([[1], [0]], 2)
            for wrong in (wider, longer, turned_round, unchanged(5), unchanged(2), unchanged(1),
                          Garbling(1, [[1]] * 5)):
                expected = makes(LESS, wrong, merged_experiment(WRONG, parting))
                self.assertIs(self.judge({**kept, parting: wrong}), expected)
                self.assertIs(expected, False)
        self.assertEqual(self.paper, kept)

    def test_one_integer_otherwise(self):
        verdicts = {True: 0, False: 0}
        for one, other in [(LESS, WRONG), *some_pairs(85, 60, 3)]:
            for acts in (1, 2, 3):
                paper = merging_paper(one, other, acts)
                for parting in paper or ():
                    for wrong in altered(paper[parting]):
                        verdict = shows_for(one, other, acts, {**paper, parting: wrong})
                        self.assertIs(verdict, makes(one, wrong, merged_experiment(other, parting)))
                        verdicts[verdict] += 1
        self.assertGreater(min(verdicts.values()), 50)

    def test_a_paper_for_one_pair_says_nothing_of_another_pair(self):
        self.assertIs(shows_for(PART, WRONG, 2, self.paper), False)
        self.assertIs(shows_for(WRONG, LESS, 2, self.paper), False)


class Several(unittest.TestCase):

    def test_empty_lists(self):
        for several in ([], ()):
            self.assertEqual([best_for(several, 1), best_for(several, 100)], [[], []])
            for wrong in NO_COUNTS:
                expect_error(self, BadSize(wrong), lambda: best_for(several, wrong))

    def test_plain_ones(self):
        same = Experiment(8, [[3, 2, 3], [1, 6, 1]])
        cases = [
            ([LESS, PART, WRONG], 1, [0, 1, 2]), ([LESS, PART, WRONG], 2, [1]), ([LESS, PART, WRONG], 3, [1]),
            ([LESS, PART, WRONG], 4, [1, 2]), ([WRONG, LESS], 2, [1]), ([WRONG, LESS], 3, [0, 1]),
            ([DIM, CLEAR, SURE, same], 2, [1, 2, 3]), ([DIM, CLEAR, SURE, same], 1, [0, 1, 2, 3]),
            ([CLEAR, CLEAR], 2, [0, 1]), ([DIM], 2, [0]), ([uninformative(1), Experiment(2, [[1, 1]])], 7, [0, 1]),
        ]
        for several, acts, indices in cases:
            kept = list(several)
            self.assertEqual(best_for(several, acts), indices)
            self.assertEqual(best_for(tuple(several), acts), indices)
            self.assertTrue(all(one is other for one, other in zip(several, kept, strict=True)))
            self.assertEqual({type(index) for index in best_for(several, acts)}, {int})

    def test_against_the_order_of_each_pair(self):
        rng = random.Random(86)
        for _ in range(15):
            states = rng.randint(1, 4)
            several = [some_experiment(rng, states, rng.randint(1, 3)) for _ in range(2)]
            several += [alike_with(rng, several[0]), garbled(several[1], some_garbling(rng, several[1].signals, 2))]
            rng.shuffle(several)
            for acts in (1, 2, 3):
                words = [[order_for(one, other, acts) for other in several] for one in several]
                self.assertEqual(best_for(acts=acts, experiments=several),
                                 [at for at in range(4) if "worse" not in words[at]])

    def test_mismatch(self):
        two, three = uninformative(2), uninformative(3)
        for several in ([two, three], [three, two], [two, two, three], [two, three, two], [three, two, two]):
            for acts in (1, 2, 0, True, None):
                expect_error(self, Mismatch(), lambda: best_for(several, acts))
                expect_error(self, Mismatch(), lambda: best_for(tuple(several), acts))
        for wrong in NO_COUNTS:
            expect_error(self, BadSize(wrong), lambda: best_for([CLEAR, DIM], wrong))
            expect_error(self, BadSize(wrong), lambda: best_for([CLEAR], wrong))

    def test_new_on_each_call(self):
        answer = best_for([DIM, CLEAR], 2)
        answer.append(7)
        self.assertEqual(best_for([DIM, CLEAR], 2), [1])
        paper = merging_paper(CLEAR, DIM, 2)
        paper.clear()
        self.assertEqual(len(merging_paper(CLEAR, DIM, 2)), 1)


if __name__ == "__main__":
    unittest.main()
