"""Points [4], [7], [8], [31], [32] and [33]: garblings."""

import random
import unittest
from fractions import Fraction
from itertools import permutations

from everydecider import experiments, garblings
from everydecider.errors import BadGroups, BadRow, BadSize, BadUnit, Mismatch, NoSignal
from everydecider.experiments import Experiment, revealing, uninformative
from everydecider.garblings import Garbling, garbled, is_sharp, merging, renaming, unchanged
from tests.examples import expect_error, run_examples
from tests.values import BAD_ROWS, BIG, NO_INTEGERS, all_lists, as_ratio, in_tuples, some_experiment, some_garbling

EXAMPLES = """
    >>> e = Experiment(4, [[3, 1], [1, 3]])
    >>> g = Garbling(6, [[5, 1], [1, 5]])
    >>> [garbled(e, g).rows(), garbled(e, g).unit, (g * g).rows(), g[0, 1]]
    [[[2, 1], [1, 2]], 3, [[13, 5], [5, 13]], (1, 6)]
    >>> [garbled(revealing(3), merging([[0, 2], [1]], 3)).rows(), renaming([1, 0]).rows(), is_sharp(g)]
    [[[1, 0], [0, 1], [1, 0]], [[0, 1], [1, 0]], False]
"""


def share(thing, at, signal):
    """The probability in a row of an experiment or a garbling, from its integers."""
    return Fraction(thing.rows()[at][signal], thing.unit)


def product_shares(one, lines, other):
    """The probabilities of one thing followed by a garbling, multiplied out."""
    return [[sum(share(one, at, old) * share(other, old, new) for old in range(other.before))
             for new in range(other.after)] for at in range(lines)]


class Examples(unittest.TestCase):

    def test_examples(self):
        run_examples(self, EXAMPLES, {**vars(experiments), **vars(garblings)})


class Construction(unittest.TestCase):

    def test_attributes_and_rows(self):
        g = Garbling(4, [[3, 1, 0], [1, 2, 1]])
        self.assertEqual([g.unit, g.before, g.after], [4, 2, 3])
        self.assertEqual(g.rows(), [[3, 1, 0], [1, 2, 1]])
        self.assertEqual(all_lists(g.rows()), [[int] * 3] * 2)
        self.assertEqual(Garbling(1, ((1,),)).rows(), [[1]])

    def test_all_numbers_of_signals(self):
        for before in [1, 2, 3, 4, 5, 6, 7, 64]:
            for after in [1, 2, 6, 64]:
                g = Garbling(after, [[1] * after] * before)
                self.assertEqual([g.unit, g.before, g.after], [after, before, after])

    def test_bad_unit(self):
        for unit in [0, -1, -BIG, *NO_INTEGERS]:
            expect_error(self, BadUnit(unit), lambda: Garbling(unit, [[1], [1]]))

    def test_bad_size(self):
        expect_error(self, BadSize(0), lambda: Garbling(1, []))
        expect_error(self, BadSize(0), lambda: Garbling(BIG, ()))

    def test_bad_row(self):
        for index, rows in [*BAD_ROWS, (6, [[4]] * 6 + [[5], [6]])]:
            with self.subTest(rows=rows):
                expect_error(self, BadRow(index), lambda: Garbling(4, rows))
                expect_error(self, BadRow(index), lambda: Garbling(4, in_tuples(rows)))

    def test_a_row_of_something_else_than_integers(self):
        for wrong in NO_INTEGERS:
            expect_error(self, BadRow(0), lambda: Garbling(1, [[wrong, 0], [1, 0]]))
            expect_error(self, BadRow(1), lambda: Garbling(1, [[1, 0], [1, wrong]]))
            expect_error(self, BadRow(4), lambda: Garbling(1, [[1, 0]] * 4 + [[0, wrong]]))
        expect_error(self, BadRow(0), lambda: Garbling(1, [[True]]))
        expect_error(self, BadRow(0), lambda: Garbling(1, [[1, False]]))

    def test_order_of_the_errors(self):
        expect_error(self, BadUnit(0), lambda: Garbling(0, []))
        expect_error(self, BadUnit(True), lambda: Garbling(True, [[2]]))
        expect_error(self, BadSize(0), lambda: Garbling(7, []))

    def test_lowest_terms(self):
        cases = [
            (8, [[6, 2], [2, 6]], 4, [[3, 1], [1, 3]]),
            (8, [[6, 2], [3, 5]], 8, [[6, 2], [3, 5]]),
            (6, [[6, 0], [0, 6]], 1, [[1, 0], [0, 1]]),
            (30, [[10, 20], [15, 15], [0, 30]], 6, [[2, 4], [3, 3], [0, 6]]),
            (2 * BIG, [[BIG, BIG], [2 * BIG, 0]], 2, [[1, 1], [2, 0]]),
        ]
        for unit, rows, lowest_unit, lowest_rows in cases:
            g = Garbling(unit, rows)
            self.assertEqual([g.unit, g.rows()], [lowest_unit, lowest_rows])

    def test_arguments_by_name(self):
        self.assertEqual(Garbling(rows=[[3, 1], [1, 3]], unit=4), Garbling(4, [[3, 1], [1, 3]]))

    def test_later_changes_of_lists_have_no_effect(self):
        for unit in (4, 8):
            first = [unit // 2, unit // 2]
            rows = [first, [unit, 0]]
            g = Garbling(unit, rows)
            before = g.rows()
            self.assertEqual(rows, [[unit // 2, unit // 2], [unit, 0]])
            first[0] = 99
            rows.append([1])
            self.assertEqual([g.rows(), g.before, g.after, g[0, 0]], [before, 2, 2, (1, 2)])
            told = g.rows()
            told[0][0] = 99
            told.append([1])
            told[1].append(5)
            self.assertEqual([g.rows(), g[0, 0]], [before, (1, 2)])
            self.assertIsNot(g.rows(), g.rows())
            self.assertIsNot(g.rows()[0], g.rows()[0])


class Items(unittest.TestCase):

    def test_probabilities(self):
        g = Garbling(12, [[6, 4, 2, 0], [0, 3, 9, 0], [12, 0, 0, 0]])
        self.assertEqual([[g[old, new] for new in range(4)] for old in range(3)],
                         [[(1, 2), (1, 3), (1, 6), (0, 1)],
                          [(0, 1), (1, 4), (3, 4), (0, 1)],
                          [(1, 1), (0, 1), (0, 1), (0, 1)]])

    def test_no_old_signal_then_no_new_signal(self):
        g = Garbling(2, [[1, 1, 0], [2, 0, 0]])
        for old in [-1, 2, 3, BIG, *NO_INTEGERS]:
            for new in (0, 2, -2, 7, None):
                expect_error(self, NoSignal(old), lambda: g[old, new])
        for new in [-1, 3, 4, BIG, *NO_INTEGERS]:
            for old in (0, 1):
                expect_error(self, NoSignal(new), lambda: g[old, new])

    def test_no_iteration(self):
        with self.assertRaises(TypeError):
            list(unchanged(2))


class Equality(unittest.TestCase):

    def test_equal(self):
        g = Garbling(4, [[3, 1], [1, 3]])
        self.assertIs(g == g, True)
        self.assertIs(g == Garbling(400, ((300, 100), (100, 300))), True)
        self.assertIs(g != Garbling(8, [[6, 2], [2, 6]]), False)

    def test_not_equal(self):
        g = Garbling(4, [[3, 1], [1, 3]])
        others = [Garbling(4, [[3, 1], [3, 1]]), Garbling(4, [[1, 3], [3, 1]]), Garbling(4, [[3, 1]]),
                  Garbling(4, [[3, 1], [1, 3], [1, 3]]), Garbling(4, [[3, 1, 0], [1, 3, 0]]),
                  Garbling(5, [[3, 2], [1, 4]]), Garbling(8, [[3, 5], [1, 7]])]
        for other in others:
            self.assertIs(g == other, False)
            self.assertIs(other == g, False)
            self.assertIs(g != other, True)

    def test_other_kinds_of_values(self):
        g = Garbling(4, [[3, 1], [1, 3]])
        for other in [None, 0, 4, True, "", "g", [[3, 1], [1, 3]], ((3, 1), (1, 3)), (4, [[3, 1], [1, 3]]), {},
                      object(), Garbling, Experiment(4, [[3, 1], [1, 3]])]:
            self.assertIs(g == other, False)
            self.assertIs(other == g, False)
            self.assertIs(g != other, True)


class Products(unittest.TestCase):

    def test_one_and_then_the_other(self):
        rng = random.Random(31)
        for _ in range(200):
            sizes = [rng.randint(1, 6) for _ in range(3)]
            one, other = some_garbling(rng, *sizes[:2]), some_garbling(rng, *sizes[1:])
            before = [one.rows(), other.rows()]
            both = one * other
            self.assertIs(type(both), Garbling)
            self.assertEqual([both.before, both.after], [sizes[0], sizes[2]])
            shares = product_shares(one, sizes[0], other)
            self.assertEqual([[both[old, new] for new in range(sizes[2])] for old in range(sizes[0])],
                             [[as_ratio(number) for number in row] for row in shares])
            self.assertEqual(Garbling(both.unit, both.rows()).unit, both.unit)
            self.assertEqual([one.rows(), other.rows()], before)

    def test_the_order_matters(self):
        first, second = Garbling(1, [[1, 0], [1, 0]]), renaming([1, 0])
        self.assertEqual((first * second).rows(), [[0, 1], [0, 1]])
        self.assertEqual((second * first).rows(), [[1, 0], [1, 0]])

    def test_against_garbling_twice(self):
        rng = random.Random(32)
        for _ in range(200):
            sizes = [rng.randint(1, 6) for _ in range(3)]
            e = some_experiment(rng, rng.randint(1, 4), sizes[0])
            one, other = some_garbling(rng, *sizes[:2]), some_garbling(rng, *sizes[1:])
            self.assertEqual(garbled(garbled(e, one), other), garbled(e, one * other))

    def test_mismatch(self):
        two_three, three_two, one_one = Garbling(1, [[1, 0, 0]] * 2), Garbling(1, [[1, 0]] * 3), unchanged(1)
        self.assertEqual([(two_three * three_two).before, (three_two * two_three).before], [2, 3])
        for one, other in [(two_three, two_three), (three_two, three_two), (one_one, two_three),
                           (two_three, one_one), (two_three, unchanged(4))]:
            expect_error(self, Mismatch(), lambda: one * other)


class Garbled(unittest.TestCase):

    def test_sums_multiplied_out(self):
        rng = random.Random(33)
        for _ in range(300):
            states, before, after = rng.randint(1, 4), rng.randint(1, 6), rng.randint(1, 6)
            e, g = some_experiment(rng, states, before), some_garbling(rng, before, after)
            kept = [e.rows(), g.rows()]
            f = garbled(e, g)
            self.assertIs(type(f), Experiment)
            self.assertEqual([f.states, f.signals], [states, after])
            self.assertEqual([[f[state, new] for new in range(after)] for state in range(states)],
                             [[as_ratio(number) for number in row] for row in product_shares(e, states, g)])
            self.assertEqual([e.rows(), g.rows()], kept)

    def test_signals_with_the_probability_0(self):
        e = Experiment(2, [[1, 0, 1], [2, 0, 0]])
        g = Garbling(3, [[1, 2, 0], [0, 0, 3], [3, 0, 0]])
        self.assertEqual([garbled(e, g).rows(), garbled(e, g).unit], [[[2, 1, 0], [1, 2, 0]], 3])
        self.assertEqual(garbled(e, merging([[1], [0, 2]], 3)).rows(), [[0, 1], [0, 1]])

    def test_lowest_terms(self):
        f = garbled(Experiment(4, [[3, 1], [1, 3]]), Garbling(2, [[1, 1], [1, 1]]))
        self.assertEqual([f.unit, f.rows()], [2, [[1, 1], [1, 1]]])

    def test_mismatch(self):
        e = Experiment(3, [[1, 1, 1], [3, 0, 0]])
        for before in (1, 2, 4, 6):
            expect_error(self, Mismatch(), lambda: garbled(e, unchanged(before)))
        # The number of the new signals does not matter.
        expect_error(self, Mismatch(), lambda: garbled(e, Garbling(1, [[1, 0, 0]] * 2)))
        self.assertEqual(garbled(e, Garbling(1, [[1]] * 3)), uninformative(2))

    def test_arguments_by_name(self):
        self.assertEqual(garbled(g=renaming([1, 0]), e=revealing(2)).rows(), [[0, 1], [1, 0]])


class PlainGarblings(unittest.TestCase):

    def test_unchanged(self):
        for signals in [1, 2, 3, 6, 64]:
            g = unchanged(signals)
            self.assertEqual([g.unit, g.before, g.after], [1, signals, signals])
            self.assertEqual(g.rows(), [[1 if new == old else 0 for new in range(signals)] for old in range(signals)])
        self.assertEqual(all_lists(unchanged(2).rows()), [[int, int]] * 2)
        e = Experiment(7, [[1, 2, 4], [0, 7, 0]])
        self.assertEqual(garbled(e, unchanged(signals=3)), e)

    def test_numbers_of_signals(self):
        for signals in [-BIG, -2, -1, 0, *NO_INTEGERS]:
            expect_error(self, BadSize(signals), lambda: unchanged(signals))
            for groups in ([[0]], [], [[]], None):
                expect_error(self, BadSize(signals), lambda: merging(groups, signals))

    def test_merging(self):
        cases = [
            ([[0]], 1, [[1]]),
            ([[0, 1, 2]], 3, [[1], [1], [1]]),
            ([[0, 2], [1]], 3, [[1, 0], [0, 1], [1, 0]]),
            ([[2, 0], [1]], 3, [[1, 0], [0, 1], [1, 0]]),
            ([[1], [2, 0]], 3, [[0, 1], [1, 0], [0, 1]]),
            ([[3], [1, 0], [2]], 4, [[0, 1, 0], [0, 1, 0], [0, 0, 1], [1, 0, 0]]),
        ]
        for groups, signals, rows in cases:
            self.assertEqual([merging(groups, signals).rows(), merging(groups, signals).unit], [rows, 1])
            self.assertEqual(merging(in_tuples(groups), signals), merging(groups, signals))
            self.assertEqual(all_lists(merging(groups, signals).rows()), all_lists(rows))
        self.assertEqual(merging(signals=2, groups=[[1], [0]]), renaming([1, 0]))
        self.assertEqual(merging([list(range(64))], 64).rows(), [[1]] * 64)

    def test_merging_bad_groups(self):
        cases = [([], 1), ([], 2), ([[]], 1), ([[0], []], 1), ([[], [0]], 1), ([[0, 1], []], 2), ([[0], [0]], 1),
                 ([[0, 0]], 1), ([[0, 0]], 2), ([[0], [0]], 2), ([[0, 1], [1]], 2), ([[0, 1], [1]], 3), ([[0]], 2),
                 ([[1]], 2), ([[0], [2]], 3), ([[1]], 1), ([[0, 1]], 1), ([[0], [2]], 2), ([[0, 1, 2]], 2),
                 ([[-1]], 1), ([[0, -1]], 2), ([[0], [1, -1]], 2), ([[0], [BIG]], 2), ([[0]], BIG),
                 ([0], 1), ([0, 1], 2), ([[0], 1], 2), (None, 1), (0, 1), ("0", 1), (["0"], 1), ({0: [0]}, 1),
                 ([{0: 0}], 1), ([[0], None], 1), ([[[0]]], 1), ([[0], "1"], 2)]
        for groups, signals in cases:
            with self.subTest(groups=groups, signals=signals):
                expect_error(self, BadGroups(), lambda: merging(groups, signals))
                expect_error(self, BadGroups(), lambda: merging(in_tuples(groups), signals))
        for wrong in NO_INTEGERS:
            expect_error(self, BadGroups(), lambda: merging([[wrong, 0]], 2))
            expect_error(self, BadGroups(), lambda: merging([[1], [wrong]], 2))
            expect_error(self, BadGroups(), lambda: merging([[0], [wrong]], 2))

    def test_renaming(self):
        for size in range(1, 5):
            for order in permutations(range(size)):
                g = renaming(order)
                self.assertEqual([g.unit, g.before, g.after], [1, size, size])
                self.assertEqual(g, renaming(list(order)))
                for new in range(size):
                    self.assertEqual([g[old, new] for old in range(size)],
                                     [(int(old == order[new]), 1) for old in range(size)])
        self.assertEqual(renaming([2, 0, 1]).rows(), [[0, 1, 0], [0, 0, 1], [1, 0, 0]])
        self.assertEqual(garbled(Experiment(6, [[1, 2, 3]]), renaming(order=[2, 0, 1])).rows(), [[3, 1, 2]])
        self.assertEqual(all_lists(renaming([1, 0]).rows()), [[int, int]] * 2)

    def test_renaming_bad_groups(self):
        for order in [[], (), [1], [-1], [0, 0], [0, 2], [1, 2], [1, 1], [0, 1, 1], [0, -1], [2, 0, 1, 1], [0, BIG],
                      None, 0, 1, "0", "", "10", {0: 0}, [[0]], [[0], [1]]]:
            with self.subTest(order=order):
                expect_error(self, BadGroups(), lambda: renaming(order))
        for wrong in NO_INTEGERS:
            expect_error(self, BadGroups(), lambda: renaming([wrong]))
            expect_error(self, BadGroups(), lambda: renaming([wrong, 0]))
            expect_error(self, BadGroups(), lambda: renaming([1, wrong]))

    def test_arguments_stay(self):
        groups, order = [[1], [2, 0]], [2, 0, 1]
        one, other = merging(groups, 3), renaming(order)
        kept = [one.rows(), other.rows()]
        self.assertEqual([groups, order], [[[1], [2, 0]], [2, 0, 1]])
        groups[1].append(5)
        order[0] = 9
        self.assertEqual([one.rows(), other.rows()], kept)

    def test_is_sharp(self):
        for g in [unchanged(1), unchanged(5), merging([[0, 2], [1]], 3), renaming([1, 0]), Garbling(1, [[0, 1, 0]] * 6),
                  Garbling(9, [[9, 0], [9, 0]]), merging([[0], [1]], 2) * renaming([1, 0])]:
            self.assertIs(is_sharp(g), True)
        for g in [Garbling(2, [[1, 1]]), Garbling(6, [[5, 1], [1, 5]]), Garbling(3, [[3, 0], [3, 0], [2, 1]]),
                  Garbling(1000, [[1000, 0, 0], [0, 999, 1]])]:
            self.assertIs(is_sharp(g), False)
        self.assertIs(is_sharp(g=unchanged(2)), True)


if __name__ == "__main__":
    unittest.main()
