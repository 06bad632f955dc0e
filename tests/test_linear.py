"""Points [7], [8] and [51] to [54]: linear programs."""

import random
import time
import unittest

from everydecider import linear
from everydecider.errors import BadProgram
from everydecider.linear import is_least, is_solved, least, solve
from tests.examples import expect_error, run_examples
from tests.limits import in_time
from tests.values import BIG, NO_INTEGERS, all_lists, in_tuples

EXAMPLES = """
    >>> [solve([[2, -1], [1, 1]], [0, 6])[0], is_solved([[2, -1], [1, 1]], [0, 6], ("amounts", 1, [2, 4])), solve([[1, 1]], [-1])[0]]
    ['amounts', True, 'multipliers']
    >>> answer = least([[1, 1, 0], [0, 1, 1]], [2, 3], [1, 1, 1])
    >>> [answer[0], is_least([[1, 1, 0], [0, 1, 1]], [2, 3], [1, 1, 1], answer), sum(answer[2]) == 3 * answer[1]]
    ['least', True, True]
    >>> [least([[1, -1]], [0], [0, -1])[0], least([[1, 1]], [-2], [1, 1])[0], is_least([[1, 1]], [-2], [1, 1], ("none", [-3]))]
    ['endless', 'none', True]
"""


def dot(one, other):
    return sum(number * factor for number, factor in zip(one, other, strict=True))


def columns_of(rows):
    return [list(column) for column in zip(*rows)]


def amounts_hold(rows, totals, unit, amounts):
    """Point [51]: amounts multiplied out."""
    return (unit >= 1 and len(amounts) == len(rows[0]) and min(amounts) >= 0 and
            all(dot(row, amounts) == number * unit for row, number in zip(rows, totals)))


def multipliers_hold(rows, totals, numbers):
    """Point [51]: multipliers multiplied out."""
    return (len(numbers) == len(rows) and dot(totals, numbers) > 0 and
            all(dot(column, numbers) <= 0 for column in columns_of(rows)))


def solved(rows, totals, answer):
    if answer[0] == "multipliers":
        return multipliers_hold(rows, totals, answer[1])
    return amounts_hold(rows, totals, *answer[1:])


def cheapest(rows, totals, costs, answer):
    """Point [53]: the three answers multiplied out."""
    if answer[0] == "none":
        return multipliers_hold(rows, totals, answer[1])
    _, unit, amounts, last = answer
    if not amounts_hold(rows, totals, unit, amounts):
        return False
    if answer[0] == "endless":
        return (len(last) == len(rows[0]) and min(last) >= 0 and dot(costs, last) < 0 and
                all(dot(row, last) == 0 for row in rows))
    return (len(last) == len(rows) and dot(totals, last) == dot(costs, amounts) and
            all(dot(column, last) <= cost * unit for column, cost in zip(columns_of(rows), costs)))


def changed(rng, answer):
    """Each answer that has one integer otherwise than this one."""
    for place in range(1, len(answer)):
        part = answer[place]
        if isinstance(part, int):
            for other in {part + 1, part - 1, -part, 0, part + rng.randint(1, 9)} - {part}:
                yield (*answer[:place], other, *answer[place + 1:])
            continue
        for at, number in enumerate(part):
            for other in {number + 1, number - 1, -number, number + rng.randint(2, 9)} - {number}:
                yield (*answer[:place], [*part[:at], other, *part[at + 1:]], *answer[place + 1:])


def resized(answer):
    """Answers with lists that are too short or too long, by zeros and others."""
    for place in range(1, len(answer)):
        if isinstance(answer[place], list):
            for other in ([], answer[place][:-1], answer[place][1:], answer[place] + [0], [0] + answer[place],
                          answer[place] + [3], answer[place] * 2):
                if len(other) != len(answer[place]):
                    yield (*answer[:place], other, *answer[place + 1:])


def some_program(rng, most_rows, most_columns, numbers):
    """Rows, totals and costs of many kinds: with sums of rows, equal columns, zeros, reachable totals or not."""
    high, wide = rng.randint(1, most_rows), rng.randint(1, most_columns)
    rows = [[rng.choice(numbers) for _ in range(wide)] for _ in range(high)]
    kind = rng.randrange(5)
    if kind == 0:
        rows[-1] = [0] * wide
    if kind == 1:
        rows[-1] = [number + 2 * other for number, other in zip(rows[0], rows[high // 2])]
    if kind == 2 and wide > 1:
        for row in rows:
            row[-1] = row[0]
    if rng.random() < 0.3:
        rows = [[abs(number) for number in row] for row in rows]
    totals = [rng.choice(numbers) for _ in range(high)]
    if rng.random() < 0.6:
        reached = [rng.choice([0, 0, 1, 2]) for _ in range(wide)]
        totals = [dot(row, reached) for row in rows]
    costs = [rng.choice(numbers) for _ in range(wide)]
    if rng.random() < 0.4:
        costs = [abs(cost) for cost in costs]
    return rows, totals, costs


# Rows and costs, for totals of 0, on which the simplex method goes round in a circle if it takes ..
CIRCLES = [
    # .. always the steepest column,
    ([[1, 0, 1, -11, -5, 18], [0, 1, 1, -3, -1, 2]], [0, 0, -10, 57, 9, 24]),
    ([[1, 0, -4, -1, 1, 6], [0, 1, -4, -3, 6, -1]], [0, 0, 3, -2, 4, 6]),
    ([[1, 0, -2, -4, 6, -4], [0, 1, -2, -5, 1, 3]], [0, 0, -3, -3, 6, 4]),
    ([[1, 0, 0, 1, -2, 2, -1, 1], [0, 1, 0, 4, -3, 1, 6, 1], [0, 0, 1, -6, 5, 5, 3, -5]], [0, 0, 0, 0, 3, 3, 4, 5]),
    # .. always the last column that lessens the costs,
    ([[4, 6, -6, 1, -5, 2], [6, -2, -1, 1, 0, -1]], [-2, -4, 0, 3, 5, 4]),
    ([[1, 0, -4, -3, 1, 3], [0, 1, -4, -1, 6, -4]], [0, 0, -1, 0, 2, 3]),
    ([[2, -3, -3, 3, -6, -2, 2], [2, 1, 3, 1, 5, 4, 2], [1, 4, 4, 6, 2, 5, -1]], [-3, -2, 6, -6, 5, 0, 0]),
    # .. the first column, and of several rows that are as near to 0 the first one,
    ([[6, -5, 1, 4, -1, -5], [2, 5, 6, 1, -1, -3]], [4, 5, -6, -5, 2, 0]),
    ([[1, 0, 3, -5, -4, 6], [0, 1, 6, -5, -3, -5]], [0, 0, -4, 4, 2, -5]),
    ([[3, -5, -4, 5, 4, 0, -1], [1, -5, -6, -1, 3, 6, 3], [2, 2, -3, 6, -3, -2, 2]], [5, 1, -1, 5, 2, 6, -5]),
    ([[0, -3, 3, -5, 4, 4, -1, -5, -4], [4, -2, -4, -1, 1, -4, 6, -2, -2], [6, 0, -3, 5, 1, -6, -3, 0, 6],
      [4, -4, -5, 2, -2, -3, 5, 3, -4]], [4, 2, 3, 2, 2, 6, 4, -1, -4]),
    # .. the first column, and of such rows the last one,
    ([[-5, -4, 3, 0, -1, 2], [-6, -5, 0, 2, 4, 2]], [6, -1, 0, 3, 2, -3]),
    ([[1, 0, -4, -2, 3, -6], [0, 1, 6, -1, 1, -4]], [0, 0, -2, 4, -5, 0]),
    ([[-3, -2, -3, 1, -3, -6, 3, 0], [6, -6, -6, -1, -3, 2, 2, -2], [3, -1, 6, -5, -2, 4, -2, 5]],
     [3, -1, 2, 1, 1, -3, 3, -1]),
    # .. the first column, and of such rows the one with the last column.
    ([[-1, -5, 6, -2, -6, 6], [-4, -2, 4, -4, -1, 3]], [6, 5, -2, 3, 3, -5]),
    ([[1, 0, -2, -6, 5, 3], [0, 1, -2, -4, -5, 6]], [0, 0, 3, 2, -1, -6]),
    ([[2, 4, -4, -3, -3, 5, -5], [-3, -3, 4, -5, 6, -2, 4], [-3, 1, 0, 3, -6, -1, 2]], [3, 5, 2, -1, -6, -1, -6]),
]
SMALL = [-3, -2, -1, 0, 0, 0, 1, 1, 2, 5]


class Examples(unittest.TestCase):

    def test_examples(self):
        run_examples(self, EXAMPLES, vars(linear))


class Solving(unittest.TestCase):

    def check(self, rows, totals, kind=None):
        answer = solve(rows, totals)
        self.assertIs(type(answer), tuple)
        if kind is not None:
            self.assertEqual(answer[0], kind)
        if answer[0] == "amounts":
            self.assertEqual(all_lists(list(answer)), [str, int, [int] * len(rows[0])])
        else:
            self.assertEqual(answer[0], "multipliers")
            self.assertEqual(all_lists(list(answer)), [str, [int] * len(rows)])
        self.assertTrue(solved(rows, totals, answer), (rows, totals, answer))
        self.assertIs(is_solved(rows, totals, answer), True)
        return answer

    def test_amounts(self):
        self.check([[2, -1], [1, 1]], [0, 6], "amounts")
        self.check([[1]], [0], "amounts")
        self.check([[3]], [7], "amounts")
        self.check([[-3, 2]], [-7], "amounts")
        self.check([[1, 2, 3]], [0], "amounts")
        self.check([[0, 0]], [0], "amounts")
        self.assertEqual(solve([[3]], [7])[2][0] * 3, solve([[3]], [7])[1] * 7)

    def test_multipliers(self):
        self.check([[1, 1]], [-1], "multipliers")
        self.check([[0]], [1], "multipliers")
        self.check([[0, 0]], [-1], "multipliers")
        self.check([[1, 1], [1, 1]], [1, 2], "multipliers")
        self.check([[1, 0], [0, 1], [1, 1]], [1, 1, 3], "multipliers")
        self.check([[1, -1], [-1, 1]], [1, 1], "multipliers")
        self.check([[2, 4]], [-6], "multipliers")

    def test_rows_of_zeros(self):
        self.check([[0, 0], [1, 2]], [0, 3], "amounts")
        self.check([[0, 0], [1, 2]], [1, 3], "multipliers")
        self.check([[1, 2], [0, 0]], [3, -1], "multipliers")
        self.check([[0, 0, 0]] * 3, [0, 0, 0], "amounts")

    def test_rows_that_are_sums_of_others(self):
        rows = [[1, 2, 0], [0, 1, 1], [1, 3, 1], [2, 4, 0]]
        self.check(rows, [2, 3, 5, 4], "amounts")
        self.check(rows, [2, 3, 5, 5], "multipliers")
        self.check(rows, [2, 3, 4, 4], "multipliers")

    def test_totals_below_0(self):
        self.check([[-1, -2], [1, -1]], [-4, -1], "amounts")
        self.check([[-1, 2], [1, 1]], [-5, 4], "multipliers")
        self.check([[-1, 2], [1, 1]], [-4, 4], "amounts")

    def test_many_programs(self):
        rng = random.Random(51)
        kinds = {"amounts": 0, "multipliers": 0}
        for _ in range(3000):
            rows, totals, _ = some_program(rng, 6, 7, SMALL)
            kinds[self.check(rows, totals)[0]] += 1
        self.assertGreater(min(kinds.values()), 500)

    def test_no_program_has_both(self):
        rng = random.Random(52)
        for _ in range(500):
            rows, totals, _ = some_program(rng, 3, 3, SMALL)
            answer = self.check(rows, totals)
            for _ in range(20):
                if answer[0] == "amounts":
                    other = ("multipliers", [rng.randint(-4, 4) for _ in rows])
                else:
                    other = ("amounts", rng.randint(1, 3), [rng.randint(0, 4) for _ in rows[0]])
                self.assertIs(is_solved(rows, totals, other), False)

    def test_tuples_and_names(self):
        rng = random.Random(53)
        for _ in range(50):
            rows, totals, costs = some_program(rng, 4, 4, SMALL)
            kept = (in_tuples(rows), tuple(totals), tuple(costs))
            answer = solve(rows, totals)
            self.assertEqual(solve(*kept[:2]), answer)
            self.assertEqual(solve(totals=totals, rows=rows), answer)
            self.assertIs(is_solved(answer=answer, totals=totals, rows=rows), True)
            self.assertIs(is_solved(*kept[:2], in_tuples(list(answer))), True)
            cheap = least(rows, totals, costs)
            self.assertEqual(least(*kept), cheap)
            self.assertEqual(least(costs=costs, totals=totals, rows=rows), cheap)
            self.assertIs(is_least(answer=cheap, costs=costs, totals=totals, rows=rows), True)
            self.assertIs(is_least(*kept, in_tuples(list(cheap))), True)
            self.assertEqual((in_tuples(rows), tuple(totals), tuple(costs)), kept)

    def test_lists_are_new(self):
        solve([[1, 1]], [2])[2].append(5)
        self.assertEqual(len(solve([[1, 1]], [2])[2]), 2)
        for part in (2, 3):
            least([[1, 1]], [2], [1, 1])[part].append(5)
        self.assertEqual([len(part) for part in least([[1, 1]], [2], [1, 1])[2:]], [2, 1])


class JudgingSolutions(unittest.TestCase):

    def test_plain_judgements(self):
        rows, totals = [[2, -1], [1, 1]], [0, 6]
        for answer in [("amounts", 1, [2, 4]), ("amounts", 3, [6, 12]), ("amounts", BIG, [2 * BIG, 4 * BIG])]:
            self.assertIs(is_solved(rows, totals, answer), True)
        for answer in [("amounts", 2, [2, 4]), ("amounts", 1, [2, 5]), ("amounts", 1, [4, 2]), ("amounts", 1, [2]),
                       ("amounts", 1, [2, 4, 0]), ("amounts", 1, []), ("amounts", 0, [0, 0]), ("amounts", -1, [-2, -4]),
                       ("multipliers", [0, 1]), ("multipliers", [0, 0]), ("multipliers", [-1, -1]),
                       ("multipliers", [])]:
            self.assertIs(is_solved(rows, totals, answer), False)

    def test_amounts_below_0(self):
        self.assertIs(is_solved([[1, 1]], [1], ("amounts", 1, [2, -1])), False)
        self.assertIs(is_solved([[1, 1]], [1], ("amounts", 1, [1, 0])), True)
        self.assertIs(is_solved([[1, -1]], [0], ("amounts", 1, [-1, -1])), False)

    def test_a_unit_of_0_or_below(self):
        for unit in (0, -1, -BIG):
            self.assertIs(is_solved([[1, -1]], [0], ("amounts", unit, [1, 1])), False)
            self.assertIs(is_solved([[0]], [0], ("amounts", unit, [0])), False)
            self.assertIs(is_solved([[-1]], [1], ("amounts", unit, [-unit])), False)
            self.assertIs(is_least([[1, -1]], [0], [0, 0], ("least", unit, [0, 0], [0])), False)
            self.assertIs(is_least([[1, -1]], [0], [0, -1], ("endless", unit, [0, 0], [1, 1])), False)
        self.assertIs(is_solved([[0]], [0], ("amounts", 1, [0])), True)

    def test_other_answers(self):
        for answer in [("none", [-1]), ("least", 1, [2, 4], [0, 0]), ("", 1, [2, 4])]:
            self.assertIs(is_solved([[2, -1], [1, 1]], [0, 6], answer), False)
            self.assertIs(is_solved([[2, -1], [1, 1]], [0, -6], answer), False)
        for answer in [("multipliers", [-1, -1]), ("amounts", 1, [2, 4]), ("", 1, [2, 4], [0, 0])]:
            self.assertIs(is_least([[2, -1], [1, 1]], [0, 6], [0, 0], answer), False)
            self.assertIs(is_least([[2, -1], [1, 1]], [0, -6], [0, 0], answer), False)

    def test_answers_that_are_no_integers(self):
        for wrong in (True, None, "1"):
            for answer in [("amounts", wrong, [1, 0]), ("amounts", 1, [wrong, 0]), ("amounts", 1, [1, wrong])]:
                self.assertIs(is_solved([[1, 0]], [1], answer), False)
            self.assertIs(is_solved([[-1]], [1], ("multipliers", [wrong])), False)
            for answer in [("least", wrong, [1], [1]), ("least", 1, [wrong], [1]), ("least", 1, [1], [wrong])]:
                self.assertIs(is_least([[1]], [1], [1], answer), False)
            for answer in [("endless", 1, [0, wrong], [0, 1]), ("endless", 1, [0, 1], [0, wrong])]:
                self.assertIs(is_least([[0, 0]], [0], [0, -1], answer), False)

    def test_multipliers(self):
        for answer, right in [([-1], True), ([-BIG], True), ([0], False), ([1], False), ([-1, 0], False), ([], False)]:
            self.assertIs(is_solved([[1, 1]], [-1], ("multipliers", answer)), right)
        # One column comes to 0 and one to more than 0.
        self.assertIs(is_solved([[1, 1], [1, 2]], [1, 0], ("multipliers", [1, -1])), True)
        self.assertIs(is_solved([[1, 2], [1, 1]], [1, 0], ("multipliers", [1, -1])), False)
        self.assertIs(is_solved([[1], [-1]], [1, -1], ("multipliers", [1, 1])), False)

    def test_one_integer_otherwise(self):
        rng = random.Random(54)
        verdicts = {True: 0, False: 0}
        for _ in range(400):
            rows, totals, _ = some_program(rng, 4, 4, SMALL)
            for other in changed(rng, solve(rows, totals)):
                verdict = is_solved(rows, totals, other)
                self.assertIs(verdict, solved(rows, totals, other), (rows, totals, other))
                verdicts[verdict] += 1
        self.assertGreater(min(verdicts.values()), 100)

    def test_lists_of_other_lengths(self):
        rng = random.Random(55)
        for _ in range(100):
            rows, totals, _ = some_program(rng, 4, 4, SMALL)
            for other in resized(solve(rows, totals)):
                self.assertIs(is_solved(rows, totals, other), False)

    def test_arguments_stay(self):
        rows, totals, answer = [[2, -1], [1, 1]], [0, 6], ("amounts", 1, [2, 4])
        is_solved(rows, totals, answer)
        is_least(rows, totals, [1, 1], ("least", 1, [2, 4], [0, 1]))
        self.assertEqual([rows, totals, answer], [[[2, -1], [1, 1]], [0, 6], ("amounts", 1, [2, 4])])


class Costs(unittest.TestCase):

    def check(self, rows, totals, costs, kind=None):
        answer = least(rows, totals, costs)
        self.assertIs(type(answer), tuple)
        if kind is not None:
            self.assertEqual(answer[0], kind)
        shapes = {"none": [[int] * len(rows)],
                  "least": [int, [int] * len(rows[0]), [int] * len(rows)],
                  "endless": [int, [int] * len(rows[0]), [int] * len(rows[0])]}
        self.assertEqual(all_lists(list(answer[1:])), shapes[answer[0]])
        self.assertTrue(cheapest(rows, totals, costs, answer), (rows, totals, costs, answer))
        self.assertIs(is_least(rows, totals, costs, answer), True)
        return answer

    def test_none(self):
        self.check([[1, 1]], [-2], [1, 1], "none")
        self.check([[0]], [1], [0], "none")
        self.check([[1, -1], [-1, 1]], [1, 1], [-1, -1], "none")

    def test_least(self):
        answer = self.check([[1, 1, 0], [0, 1, 1]], [2, 3], [1, 1, 1], "least")
        self.assertEqual(sum(answer[2]), 3 * answer[1])
        answer = self.check([[1, 1]], [4], [3, 2], "least")
        self.assertEqual(dot([3, 2], answer[2]), 8 * answer[1])
        answer = self.check([[-2, -3]], [-6], [1, -1], "least")
        self.assertEqual(dot([1, -1], answer[2]), -2 * answer[1])
        self.check([[1, -1]], [0], [0, 0], "least")
        self.check([[1, -1]], [0], [1, -1], "least")
        self.check([[0, 0]], [0], [1, 0], "least")

    def test_endless(self):
        self.check([[1, -1]], [0], [0, -1], "endless")
        self.check([[0]], [0], [-1], "endless")
        self.check([[1, -1, 0]], [5], [-2, 1, 9], "endless")
        self.check([[-1, 1, 0], [0, 1, -1]], [-3, -2], [1, 1, -4], "endless")
        self.check([[1, 1, 0]], [2], [1, 1, -1], "endless")

    def test_rows_that_are_sums_of_others(self):
        rows, costs = [[1, 2, 0], [0, 1, 1], [1, 3, 1], [2, 4, 0], [0, 0, 0]], [1, 3, 1]
        self.check(rows, [2, 3, 5, 4, 0], costs, "least")
        self.check(rows, [0, 0, 0, 0, 0], costs, "least")
        self.check(rows, [2, 3, 5, 5, 0], costs, "none")
        self.check([[1, -1]] * 3, [0] * 3, [-1, 0], "endless")

    def test_degenerate_programs(self):
        for rows, costs in CIRCLES:
            with self.subTest(rows=rows), in_time(self, 30):
                none = [0] * len(rows)
                self.check(rows, none, costs)
                # The same with equal columns, with a limit to all amounts, and in the other direction.
                self.check([row + row for row in rows], none, costs + costs)
                self.check([row * 2 for row in rows], none, costs + [cost + 1 for cost in costs])
                limited = [row + [0] for row in rows] + [[1] * len(costs) + [1]]
                self.check(limited, none + [1], costs + [0], "least")
                self.check([row[::-1] for row in rows][::-1], none, costs[::-1])
        self.check([[1, 1, 1], [1, 1, 1], [0, 0, 0]], [0, 0, 0], [1, 1, 1], "least")

    def test_the_example_of_beale(self):
        rows = [[1, 0, 0, 25, -6000, -4, 900], [0, 1, 0, 50, -9000, -2, 300], [0, 0, 1, 0, 0, 1, 0]]
        costs = [0, 0, 0, -75, 15000, -2, 600]
        with in_time(self, 30):
            answer = self.check(rows, [0, 0, 1], costs, "least")
        self.assertEqual(dot(costs, answer[2]), -5 * answer[1])

    def test_many_programs(self):
        rng = random.Random(56)
        kinds = {"none": 0, "least": 0, "endless": 0}
        for _ in range(4000):
            rows, totals, costs = some_program(rng, 6, 7, SMALL)
            answer = self.check(rows, totals, costs)
            kinds[answer[0]] += 1
            self.assertEqual(answer[0] == "none", solve(rows, totals)[0] == "multipliers")
        self.assertGreater(min(kinds.values()), 200)

    def test_many_degenerate_programs(self):
        rng = random.Random(57)
        with in_time(self, 120):
            self.check_degenerate_programs(rng)

    def check_degenerate_programs(self, rng):
        for _ in range(1500):
            rows, _, costs = some_program(rng, 6, 10, [-1, 0, 0, 1, 1])
            self.check(rows, [0] * len(rows), costs)
            wide = len(rows[0])
            doubled = [row + row + [1 - at % 2] for at, row in enumerate(rows)]
            self.check(doubled, [1 - at % 2 for at in range(len(rows))], costs + costs + [wide])


class JudgingCosts(unittest.TestCase):

    def test_plain_judgements(self):
        rows, totals, costs = [[1, 1, 0], [0, 1, 1]], [2, 3], [1, 1, 1]
        for answer in [("least", 1, [0, 2, 1], [0, 1]), ("least", 2, [0, 4, 2], [0, 2])]:
            self.assertIs(is_least(rows, totals, costs, answer), True)
        for answer in [("least", 1, [2, 0, 3], [0, 1]), ("least", 1, [0, 2, 1], [1, 0]),
                       ("least", 1, [0, 2, 1], [1, 1]), ("least", 1, [1, 1, 2], [1, 1]),
                       ("least", 2, [0, 4, 2], [0, 1]), ("least", 1, [0, 4, 2], [0, 2]),
                       ("least", 1, [0, 2, 1], [0]), ("least", 1, [0, 2, 1], [0, 1, 0]), ("least", 1, [0, 2], [0, 1]),
                       ("none", [1, 1]), ("none", [-1, 1]), ("endless", 1, [0, 2, 1], [1, -1, 1]),
                       ("endless", 1, [0, 2, 1], [0, 0, 0])]:
            self.assertIs(is_least(rows, totals, costs, answer), False)

    def test_none(self):
        for numbers, right in [([-3], True), ([-1], True), ([0], False), ([3], False), ([], False), ([-3, 0], False)]:
            self.assertIs(is_least([[1, 1]], [-2], [1, 1], ("none", numbers)), right)

    def test_endless(self):
        rows, totals, costs = [[1, -1, 0]], [5], [-2, 1, 9]
        for amounts, way, right in [
                ([5, 0, 0], [1, 1, 0], True), ([6, 1, 7], [30, 30, 0], True), ([5, 0, 0], [0, 0, 0], False),
                ([5, 0, 0], [1, 0, 0], False), ([5, 0, 0], [-1, -1, 0], False), ([5, 0, 0], [9, 9, 1], False),
                ([5, 0, 0], [10, 10, 1], True), ([5, 0, 0], [9, 9, -1], False), ([4, 0, 0], [1, 1, 0], False),
                ([4, -1, 0], [1, 1, 0], False), ([5, 0], [1, 1, 0], False), ([5, 0, 0], [1, 1], False),
                ([5, 0, 0], [1, 1, 0, 0], False), ([5, 0, 0], [], False), ([], [1, 1, 0], False)]:
            self.assertIs(is_least(rows, totals, costs, ("endless", 1, amounts, way)), right, (amounts, way))
        self.assertIs(is_least(rows, totals, costs, ("endless", 2, [10, 0, 0], [1, 1, 0])), True)
        self.assertIs(is_least(rows, totals, costs, ("endless", 2, [5, 0, 0], [1, 1, 0])), False)

    def test_one_integer_otherwise(self):
        rng = random.Random(58)
        verdicts = {(kind, verdict): 0 for kind in ("none", "least", "endless") for verdict in (True, False)}
        for _ in range(700):
            rows, totals, costs = some_program(rng, 4, 4, SMALL)
            for other in changed(rng, least(rows, totals, costs)):
                verdict = is_least(rows, totals, costs, other)
                self.assertIs(verdict, cheapest(rows, totals, costs, other), (rows, totals, costs, other))
                verdicts[other[0], verdict] += 1
        self.assertGreater(min(verdicts.values()), 50)

    def test_lists_of_other_lengths(self):
        rng = random.Random(59)
        for _ in range(200):
            rows, totals, costs = some_program(rng, 4, 4, SMALL)
            for other in resized(least(rows, totals, costs)):
                self.assertIs(is_least(rows, totals, costs, other), False)


class NoPrograms(unittest.TestCase):

    def refused(self, rows, totals, costs):
        answers = [("amounts", 1, [1, 1]), ("multipliers", [1])]
        for answer in answers:
            expect_error(self, BadProgram(), lambda: is_solved(rows, totals, answer))
        expect_error(self, BadProgram(), lambda: solve(rows, totals))
        self.refused_with_costs(rows, totals, costs)

    def refused_with_costs(self, rows, totals, costs):
        expect_error(self, BadProgram(), lambda: least(rows, totals, costs))
        for answer in [("none", [1]), ("least", 1, [1, 1], [1]), ("endless", 1, [1, 1], [1, 1])]:
            expect_error(self, BadProgram(), lambda: is_least(rows, totals, costs, answer))

    def test_rows(self):
        for rows, totals in [([], []), ((), ()), ([[]], [1]), ([[], []], [1, 1]), ([[1, 1], [1]], [1, 1]),
                             ([[1], [1, 1]], [1, 1]), ([[1, 1], []], [1, 1]), ([[], [1, 1]], [1, 1]),
                             ([[1, 1], [1, 1], [1, 1, 1]], [1, 1, 1]), ([1, 1], [1, 1]), ([[1, 1], 1], [1, 1]),
                             (None, [1]), (["11"], [1]), ("1", [1]), ([None], [1]), ({0: [1, 1]}, [1]), (1, [1])]:
            with self.subTest(rows=rows):
                self.refused(rows, totals, [1, 1])
                self.refused(in_tuples(rows), in_tuples(totals), (1, 1))
        for wrong in NO_INTEGERS:
            self.refused([[wrong, 1]], [1], [1, 1])
            self.refused([[1, 1], [1, wrong]], [1, 1], [1, 1])

    def test_totals(self):
        for totals in [[], [1], [1, 1, 1], (), None, 1, "11", {0: 1, 1: 1}, [[1], [1]]]:
            with self.subTest(totals=totals):
                self.refused([[1, 1], [1, 2]], totals, [1, 1])
        for wrong in NO_INTEGERS:
            self.refused([[1, 1]], [wrong], [1, 1])
            self.refused([[1, 1], [1, 2]], [1, wrong], [1, 1])

    def test_costs(self):
        for costs in [[], [1], [1, 1, 1], (), None, 1, "11", {0: 1, 1: 1}, [[1], [1]]]:
            with self.subTest(costs=costs):
                self.refused_with_costs([[1, 1], [1, 2], [3, 4]], [2, 3, 7], costs)
        for wrong in NO_INTEGERS:
            self.refused_with_costs([[1, 1]], [1], [wrong, 1])
            self.refused_with_costs([[1, 1]], [1], [1, wrong])


class Large(unittest.TestCase):
    """Programs as large as callers may pass them. The time allowed is hundreds of times what is needed."""

    def answer(self, rows, totals, costs):
        start = time.perf_counter()
        one, other = solve(rows, totals), least(rows, totals, costs)
        self.assertIs(is_solved(rows, totals, one), True)
        self.assertIs(is_least(rows, totals, costs, other), True)
        self.assertLess(time.perf_counter() - start, 5)
        self.assertTrue(solved(rows, totals, one))
        self.assertTrue(cheapest(rows, totals, costs, other))
        return other

    def test_24_rows_and_16_columns(self):
        rng = random.Random(60)
        found = set()
        for high in (24, 16, 12, 8, 4, 1):
            for most in (999999, 99999, 1):
                rows = [[rng.randint(-most, most) for _ in range(16)] for _ in range(high)]
                costs = [rng.randint(-most, most) for _ in range(16)]
                found.add(self.answer(rows, [rng.randint(-most, most) for _ in range(high)], costs)[0])
                reached = [rng.choice([0, 0, 1, 1]) for _ in range(16)]
                rows = [[number // 16 for number in row] for row in rows]
                found.add(self.answer(rows, [dot(row, reached) for row in rows], costs)[0])
                found.add(self.answer(rows, [dot(row, reached) for row in rows], [abs(cost) for cost in costs])[0])
        self.assertEqual(found, {"none", "least", "endless"})

    def test_the_longest_way_round(self):
        # The cube of Klee and Minty: by greedy steps a search may come to all its 256 corners.
        rows, totals = [], []
        for at in range(8):
            doubled = [2 ** (at - place + 1) for place in range(at)]
            rows.append(doubled + [1] + [0] * (7 - at) + [int(place == at) for place in range(8)])
            totals.append(5 ** (at + 1))
        costs = [-2 ** (7 - at) for at in range(8)] + [0] * 8
        answer = self.answer(rows, totals, costs)
        self.assertEqual(dot(costs, answer[2]), -5 ** 8 * answer[1])


if __name__ == "__main__":
    unittest.main()
