"""Points [7], [8] and [141] to [144]: texts written and read, reports."""

import random
import unittest

from everydecider import bench as bench_module
from everydecider import decisions, experiments, garblings, notation
from everydecider.bench import Bench
from everydecider.comparing import order
from everydecider.decisions import Decision
from everydecider.errors import (BadLine, BadName, BadPayoffs, BadPrior, BadRow, BadSize, BadUnit, Mismatch, NameTaken,
                                 NothingToRedo, NothingToUndo)
from everydecider.experiments import Experiment, revealing, uninformative
from everydecider.fewacts import acts_needed
from everydecider.garblings import Garbling, garbled, unchanged
from everydecider.notation import read_bench, read_decision, read_experiment, read_garbling, report, text_of
from everydecider.together import again
from tests.examples import expect_error, run_examples
from tests.limits import in_time
from tests.pairs import CLEAR, DIM, SURE, some_pairs
from tests.values import parts, some_experiment, some_garbling

EXAMPLES = r"""
    >>> text_of(Experiment(8, [[6, 2], [2, 6]]))
    'experiment 4\n3 1\n1 3'
    >>> [read_decision("decision 1 2\n5 -3").payoffs(), read_garbling("garbling 1\n1 0\n0 1") == unchanged(2)]
    [[[5, -3]], True]
    >>> report(Experiment(4, [[3, 1], [1, 3]]), Experiment(3, [[2, 1], [1, 2]]))
    'order better\nacts -\nacts 2'
    >>> read_bench("bench 2\nput a 1\n1\n1\nput b 2\n1 1")
    raises BadLine(7)
"""
THIRTY = "9" * 30
MORE = "1" + "0" * 30
# Words that are no integers of a text.
NO_WORDS = ["+1", "01", "00", "-0", "-01", "--1", "1-", "-", "1.0", "1e3", "1/2", "x", "0x1", "1_0", "1,0", MORE, "-" + MORE,
            "9" * 31, "-" + "9" * 31, "0" * 31, "1" * 5000, "\u0661", "\u00b2", "\uff11", "1\u0661", "", "1\t", "\t1", "1\r",
            "1\x0b", "\x0c1", "1\xa0", "1\u2003", "1\x85", "1\x1c", "1\t1", "\t", "True", "None", "1+", "1 ", " 1", "1  1",
            "(1)", "\u22121"]
NO_HEADS = ["", " ", "Experiment", "EXPERIMENT", "experiments", "exp", "experiment\t", "\texperiment", "decisions", "put",
            "benches", "garblings", "-", "1"]


def some_decision(rng):
    states = rng.randint(1, 4)
    prior = [rng.choice([0, 1, 2, 1000]) for _ in range(states)]
    prior[rng.randrange(states)] = 3
    return Decision([[rng.randint(-1000, 1000) for _ in range(states)] for _ in range(rng.randint(1, 6))], prior)


def written(thing):
    """Points [141] and [142]: the text, with Python's own way to write integers."""
    def in_lines(head, rows):
        return "\n".join([head] + [" ".join(str(number) for number in row) for row in rows])

    if isinstance(thing, Bench):
        return "\n".join([f"bench {thing.states}"] + [
            in_lines(f"put {name} {thing[name].unit}", thing[name].rows()) for name in sorted(thing.names())])
    if isinstance(thing, Decision):
        return in_lines("decision " + " ".join(str(number) for number in thing.prior()), thing.payoffs())
    return in_lines(f"{'experiment' if isinstance(thing, Experiment) else 'garbling'} {thing.unit}", thing.rows())


class Examples(unittest.TestCase):

    def test_examples(self):
        run_examples(self, EXAMPLES, {**vars(experiments), **vars(garblings), **vars(decisions), **vars(bench_module),
                                      **vars(notation)})


class Writing(unittest.TestCase):

    def test_plain_ones(self):
        cases = [
            (CLEAR, "experiment 4\n3 1\n1 3"), (uninformative(1), "experiment 1\n1"),
            (Experiment(10, [[10, 0, 0], [4, 4, 2]]), "experiment 5\n5 0 0\n2 2 1"),
            (Garbling(6, [[5, 1], [1, 5]]), "garbling 6\n5 1\n1 5"), (unchanged(2), "garbling 1\n1 0\n0 1"),
            (Garbling(4, [[2, 2]]), "garbling 2\n1 1"),
            (Decision([[5, -3], [0, 4]], [2, 4]), "decision 1 2\n5 -3\n0 4"), (Decision([[-7]], [9]), "decision 1\n-7"),
            (Decision([[2, 4, 6, 8]], [0, 0, 0, 5]), "decision 0 0 0 1\n2 4 6 8"),
            (Bench(1), "bench 1"), (Bench(4), "bench 4"),
        ]
        for thing, text in cases:
            self.assertEqual([text_of(thing), text_of(thing=thing)], [text, text])

    def test_bench(self):
        bench = Bench(2)
        for name, e in [("sure", SURE), ("clear", Experiment(8, [[6, 2], [2, 6]])), ("b", uninformative(2))]:
            bench.put(name, e)
        text = "bench 2\nput b 1\n1\n1\nput clear 4\n3 1\n1 3\nput sure 2\n2 0\n1 1"
        self.assertEqual(text_of(bench), text)
        self.assertEqual([bench.undos, bench.names()], [3, ["b", "clear", "sure"]])
        bench.rename("sure", "a")
        bench.drop("b")
        self.assertEqual(text_of(bench), "bench 2\nput a 2\n2 0\n1 1\nput clear 4\n3 1\n1 3")
        bench.undo()
        bench.undo()
        self.assertEqual(text_of(bench), text)

    def test_large_integers(self):
        e = again(Experiment(10 ** 29, [[10 ** 29 - 1, 1], [7, 10 ** 29 - 7]]), 6)
        self.assertEqual(text_of(e), written(e))
        huge = Experiment(10 ** 4400 + 1, [[10 ** 4400, 1]])
        self.assertEqual(text_of(huge), "experiment 1" + "0" * 4399 + "1\n1" + "0" * 4400 + " 1")


class Reading(unittest.TestCase):

    def same(self, one, other):
        self.assertEqual(vars(one), vars(other))
        self.assertEqual([type(one), one == other], [type(other), True])

    def test_what_was_written(self):
        rng = random.Random(141)
        for _ in range(200):
            e = some_experiment(rng, rng.randint(1, 4), rng.randint(1, 6))
            g = some_garbling(rng, rng.randint(1, 6), rng.randint(1, 6))
            d = some_decision(rng)
            self.assertEqual([text_of(e), text_of(g), text_of(d)], [written(e), written(g), written(d)])
            self.same(read_experiment(text_of(e)), e)
            self.same(read_garbling(text_of(g)), g)
            self.same(read_decision(text_of(d)), d)
        self.same(read_experiment(text="experiment 1\n1"), uninformative(1))
        self.same(read_garbling(text="garbling 1\n1"), unchanged(1))
        self.same(read_decision(text="decision 1\n-7"), Decision([[-7]], [1]))

    def test_benches_that_were_written(self):
        rng = random.Random(142)
        for number in range(50):
            bench = Bench(rng.randint(1, 4))
            for name in rng.sample(["a", "b", "clear", "zzzzzzzz", "dim", "dimm", "q"], number % 6):
                bench.put(name, some_experiment(rng, bench.states, rng.randint(1, 6)))
            text = text_of(bench)
            self.assertEqual(text, written(bench))
            again_read = read_bench(text)
            self.assertEqual([again_read.states, again_read.names(), len(again_read), text_of(again_read)],
                             [bench.states, bench.names(), len(bench), text])
            self.assertEqual([again_read.undos, again_read.redos], [0, 0])
            expect_error(self, NothingToUndo(), again_read.undo)
            expect_error(self, NothingToRedo(), again_read.redo)
            for name in bench.names():
                self.same(again_read[name], bench[name])
        bench = read_bench(text="bench 2\nput b 8\n6 2\n2 6\nput a 1\n1\n1")
        self.assertEqual([bench.names(), bench["b"] == CLEAR, bench.order("b", "a")], [["a", "b"], True, "better"])
        bench.drop("a")
        self.assertEqual([bench.undos, bench.names()], [1, ["b"]])
        bench.undo()
        expect_error(self, NothingToUndo(), bench.undo)
        self.assertEqual(bench.names(), ["a", "b"])

    def test_not_in_lowest_terms(self):
        self.same(read_experiment("experiment 8\n6 2\n2 6"), CLEAR)
        self.same(read_garbling("garbling 4\n4 0\n0 4"), unchanged(2))
        self.same(read_decision("decision 0 4\n-2 0"), Decision([[-2, 0]], [0, 1]))

    def test_thirty_digits(self):
        self.same(read_experiment(f"experiment {THIRTY}\n{THIRTY} 0\n{'9' * 29}0 9"),
                  Experiment(10 ** 30 - 1, [[10 ** 30 - 1, 0], [10 ** 30 - 10, 9]]))
        self.same(read_garbling(f"garbling {THIRTY}\n0 {THIRTY}"), Garbling(1, [[0, 1]]))
        self.same(read_decision(f"decision {THIRTY} 1\n-{THIRTY} {THIRTY}"),
                  Decision([[1 - 10 ** 30, 10 ** 30 - 1]], [10 ** 30 - 1, 1]))
        self.assertEqual(read_bench(f"bench 1\nput a {THIRTY}\n1 {'9' * 29}8")["a"][0, 0], (1, 10 ** 30 - 1))
        expect_error(self, BadUnit(1 - 10 ** 30), lambda: read_experiment(f"experiment -{THIRTY}"))
        expect_error(self, BadSize(10 ** 30 - 1), lambda: read_bench(f"bench {THIRTY}"))
        with in_time(self, 20):
            expect_error(self, BadLine(3), lambda: read_bench(f"bench {THIRTY}\nput a 1"))
            expect_error(self, BadLine(4), lambda: read_bench(f"bench {THIRTY}\nput a 1\n1"))

    def test_words_that_are_no_integers(self):
        readers = [(read_experiment, "experiment", "4"), (read_garbling, "garbling", "4"), (read_decision, "decision", "1 1")]
        for word in NO_WORDS:
            for read, head, numbers in readers:
                for line, text in [
                        (1, f"{head} {word}"), (1, f"{head} {word}\n3 1\n1 3"), (1, f"{head} {numbers} {word}\n3 1"),
                        (2, f"{head} {numbers}\n{word}"), (2, f"{head} {numbers}\n{word} 1\n1 3"),
                        (2, f"{head} {numbers}\n3 {word}\n1 x"), (3, f"{head} {numbers}\n3 1\n1 {word}"),
                        (3, f"{head} {numbers}\n3 1\n1 {word} 2\nx\n\n"), (4, f"{head} {numbers}\n3 1\n1 3\n{word} 0 0")]:
                    with self.subTest(text=text[:60]):
                        expect_error(self, BadLine(line), lambda: read(text))
            for line, text in [
                    (1, f"bench {word}"), (1, f"bench {word}\nput a 1\n1\n1"), (2, f"bench 2\nput a {word}\n1\n1"),
                    (3, f"bench 2\nput a 1\n{word}\n1"), (4, f"bench 2\nput a 1\n1\n{word}\nput b 1"),
                    (4, f"bench 2\nput a 1\n1\n1 {word}"), (7, f"bench 2\nput a 1\n1\n1\nput b 1\n1\n{word} 1"),
                    (5, f"bench 2\nput a 1\n1\n1\nput b {word}\n1")]:
                with self.subTest(text=text[:60]):
                    expect_error(self, BadLine(line), lambda: read_bench(text))

    def test_first_lines(self):
        readers = {"experiment": read_experiment, "garbling": read_garbling, "decision": read_decision, "bench": read_bench}
        for head, read in readers.items():
            for wrong in [*NO_HEADS, *[other for other in readers if other != head], head.upper(), f" {head}", f"{head} "]:
                for text in (f"{wrong} 1\n1", f"{wrong} 1", f"{wrong} 1 1\n1 1", wrong):
                    with self.subTest(head=head, text=text):
                        expect_error(self, BadLine(1), lambda: read(text))
            for text in ("", "\n", "\n\n", " ", "1", "1 1", f"\n{head} 1\n1", head, f"{head}\n1", f"{head} ", f" {head} 1\n1",
                         f"{head} 1 \n1", f"{head}  1\n1", f"{head}1\n1", f"{head}\t1\n1", f"{head} 1\t\n1", f"{head} 1\r\n1"):
                with self.subTest(head=head, text=text):
                    expect_error(self, BadLine(1), lambda: read(text))
        for head in ("experiment", "garbling", "bench"):
            for more in ("1 1", "1 1 1", "1 x", "0 0"):
                for rows in ("", "\n1", "\n1\n1"):
                    expect_error(self, BadLine(1), lambda: readers[head](f"{head} {more}{rows}"))

    def test_lines_without_words_or_with_other_spaces(self):
        for read, text in [(read_experiment, "experiment 4\n3 1\n1 3"), (read_garbling, "garbling 4\n3 1\n1 3"),
                           (read_decision, "decision 1 1\n3 1\n1 3"), (read_bench, "bench 1\nput a 4\n3 1")]:
            lines = text.split("\n")
            for at, line in enumerate(lines):
                for wrong in [line + " ", " " + line, line.replace(" ", "  "), line.replace(" ", "\t"), line + "\t",
                              "\t" + line, line + "\r", line.replace(" ", "\xa0"), line.replace(" ", " \t"), "", " "]:
                    changed = "\n".join(lines[:at] + [wrong] + lines[at + 1:])
                    with self.subTest(text=changed):
                        expect_error(self, BadLine(at + 1), lambda: read(changed))
                changed = "\n".join(lines[:at + 1] + [""] + lines[at + 1:])
                expect_error(self, BadLine(at + 2), lambda: read(changed))
            expect_error(self, BadLine(len(lines) + 1), lambda: read(text + "\n"))
            expect_error(self, BadLine(len(lines) + 1), lambda: read(text + "\n\n"))
            # Other line ends are no line ends.
            for end in ("\r", "\x0b", "\x0c", "\x1c", "\x85", "\u2028"):
                expect_error(self, BadLine(1), lambda: read(text.replace("\n", end)))

    def test_lines_of_a_bench(self):
        cases = [
            # A row whose header is missing.
            (2, "bench 2\n1 1"), (2, "bench 2\n1\n1"), (5, "bench 2\nput a 1\n1\n1\n1"), (5, "bench 2\nput a 1\n1\n1\n1 1"),
            (3, "bench 0\nput a 1\n1"), (3, "bench -2\nput a 1\n1"), (2, "bench 0\n1"), (4, "bench 1\nput a 1\n1\n5\nput b 1"),
            # A header with a word too many or too few, or with another first word.
            (2, "bench 2\nput a"), (2, "bench 2\nput"), (2, "bench 2\nput a 1 1\n1\n1"), (2, "bench 2\nput 1\n1\n1"),
            (2, "bench 2\nPut a 1\n1\n1"), (2, "bench 2\nputs a 1\n1\n1"), (2, "bench 2\na 1\n1\n1"), (2, "bench 2\nput a b 1"),
            (2, "bench 2\ngarble a 1\n1\n1"), (2, "bench 2\nput a x\n1\n1"), (2, "bench 2\nput  1\n1\n1"),
            (2, "bench 2\nput a\t1\n1\n1"), (2, "bench 2\nput\ta 1\n1\n1"), (2, "bench 2\nexperiment a 1\n1\n1"),
            # Other white space within a name.
            (2, "bench 2\nput a\tb 1\n1\n1"), (2, "bench 2\nput \ta 1\n1\n1"), (2, "bench 2\nput a\r 1\n1\n1"),
            (2, "bench 2\nput a\xa0b 1\n1\n1"), (2, "bench 2\nput \t 1\n1\n1"),
            # A header in the place of a row.
            (3, "bench 2\nput a 1\nput b 1\n1\n1"), (4, "bench 2\nput a 1\n1\nput b 1\n1\n1"), (3, "bench 1\nput a 1\nbench 1"),
            # The bench ends within the rows.
            (3, "bench 2\nput a 1"), (4, "bench 2\nput a 1\n1"), (7, "bench 2\nput a 1\n1\n1\nput b 2\n1 1"),
            (6, "bench 2\nput a 1\n1\n1\nput b 2"), (3, "bench 1\nput a 0"), (5, "bench 4\nput a 1\n1\n1"),
            (7, "bench 5\nput a 1\n1\n1\n1\n1\n\n"), (5, "bench 4\nput A 0\n7\n-7"),
        ]
        for line, text in cases:
            with self.subTest(text=text):
                expect_error(self, BadLine(line), lambda: read_bench(text))

    def test_errors_of_the_constructors(self):
        cases = [
            (BadUnit(0), read_experiment, "experiment 0\n0"), (BadUnit(-4), read_experiment, "experiment -4\n3 1"),
            (BadUnit(0), read_experiment, "experiment 0"), (BadSize(0), read_experiment, "experiment 4"),
            (BadSize(5), read_experiment, "experiment 1\n1\n1\n1\n1\n1"), (BadSize(5), read_experiment, "experiment 1" + "\n9" * 5),
            (BadRow(0), read_experiment, "experiment 4\n3 2\n1 1"), (BadRow(1), read_experiment, "experiment 4\n3 1\n4"),
            (BadRow(0), read_experiment, "experiment 4\n5 -1"), (BadRow(1), read_experiment, "experiment 4\n4\n3 1"),
            (BadUnit(0), read_garbling, "garbling 0"), (BadUnit(-1), read_garbling, "garbling -1\n-1"),
            (BadSize(0), read_garbling, "garbling 4"), (BadRow(2), read_garbling, "garbling 4\n3 1\n1 3\n4\n1"),
            (BadRow(0), read_garbling, "garbling 4\n5 -1"), (BadRow(5), read_garbling, "garbling 1" + "\n1" * 5 + "\n2"),
            (BadSize(0), read_decision, "decision 1"), (BadSize(0), read_decision, "decision 0 -1 0 0 0"),
            (BadPayoffs(0), read_decision, "decision 1\n1 2 3 4 5"), (BadPayoffs(1), read_decision, "decision 0\n1 2\n1"),
            (BadPrior(), read_decision, "decision 1\n1 2"), (BadPrior(), read_decision, "decision 0 0\n1 2"),
            (BadPrior(), read_decision, "decision 1 -1\n1 2\n3 4"), (BadPrior(), read_decision, "decision 1 1 1\n1 2"),
            (BadSize(0), read_bench, "bench 0"), (BadSize(5), read_bench, "bench 5"), (BadSize(-1), read_bench, "bench -1"),
            (BadSize(0), read_bench, "bench 0\nput a 1\nput A 0"), (BadSize(-3), read_bench, "bench -3\nput a 1"),
            (BadSize(5), read_bench, "bench 5\nput a 0\n1\n1\n1\n1\n1"),
            (BadUnit(0), read_bench, "bench 1\nput a 0\n0"), (BadUnit(-1), read_bench, "bench 1\nput A -1\n1 1"),
            (BadRow(1), read_bench, "bench 2\nput a 2\n1 1\n2\nput b 0\n1\n1"),
            (BadRow(0), read_bench, "bench 2\nput a 2\n1 1\n1 1\nput a 2\n1\n1"),
            (BadName("A"), read_bench, "bench 1\nput A 1\n1\nput b 0\n1"), (BadName("a1"), read_bench, "bench 1\nput a1 1\n1"),
            (BadName("abcdefghi"), read_bench, "bench 1\nput abcdefghi 1\n1"), (BadName("1"), read_bench, "bench 1\nput 1 1\n1"),
            (BadName("-"), read_bench, "bench 1\nput - 1\n1"), (BadName("\u00e9"), read_bench, "bench 1\nput \u00e9 1\n1"),
            (NameTaken("a"), read_bench, "bench 1\nput a 1\n1\nput a 1\n1"),
            (NameTaken("b"), read_bench, "bench 1\nput b 1\n1\nput a 2\n1 1\nput b 3\n3\nput c 0\n1"),
            (BadUnit(0), read_bench, "bench 1\nput b 1\n1\nput b 0\n1"),
        ]
        for expected, read, text in cases:
            with self.subTest(text=text):
                expect_error(self, expected, lambda: read(text))
        # A name is a word like any other one, here the one of a header.
        self.assertEqual(read_bench("bench 1\nput put 1\n1\nput bench 1\n1").names(), ["bench", "put"])

    def test_lines_come_before_the_constructors(self):
        cases = [
            (3, read_experiment, "experiment 0\n0\nx"), (7, read_experiment, "experiment 1" + "\n1" * 5 + "\n"),
            (2, read_garbling, "garbling -1\n"), (3, read_decision, "decision 0\n1 2 3 4 5\n1  2"),
            (2, read_bench, "bench 0\nput a"), (5, read_bench, "bench 1\nput A 0\n7\nput A 0\nx"),
            (6, read_bench, "bench 1\nput a 1\n1\nput a 1\n1\n1"),
        ]
        for line, read, text in cases:
            with self.subTest(text=text):
                expect_error(self, BadLine(line), lambda: read(text))

    def test_very_long_texts(self):
        with in_time(self, 30):
            expect_error(self, BadLine(1), lambda: read_experiment("experiment " + "1" * 1000000))
            expect_error(self, BadLine(2), lambda: read_decision("decision 1\n-" + "1" * 1000000))
            rows = "\n".join(["1 " + "0 " * 98 + "0"] * 1000)
            self.assertEqual(read_garbling("garbling 1\n" + rows).before, 1000)


class Reports(unittest.TestCase):

    def test_all_four_words(self):
        half = Experiment(2, [[1, 0, 0, 1], [0, 1, 0, 1], [0, 0, 1, 1]])
        wrong = Experiment(2, [[0, 1, 1], [1, 0, 1], [1, 1, 0]])
        cases = [
            (CLEAR, DIM, "order better\nacts -\nacts 2"), (DIM, CLEAR, "order worse\nacts 2\nacts -"),
            (CLEAR, CLEAR, "order alike\nacts -\nacts -"), (CLEAR, SURE, "order apart\nacts 2\nacts 2"),
            (half, wrong, "order apart\nacts 3\nacts 2"), (wrong, half, "order apart\nacts 2\nacts 3"),
            (uninformative(1), Experiment(2, [[1, 1]]), "order alike\nacts -\nacts -"),
            (revealing(4), uninformative(4), "order better\nacts -\nacts 2"),
        ]
        for one, other, text in cases:
            self.assertEqual([report(one, other), report(other=other, one=one)], [text, text])

    def test_many(self):
        words = set()
        for one, other in some_pairs(144, 80, 3):
            word = order(one, other)
            words.add(word)
            lines = [f"order {word}"]
            for pair in ((one, other), (other, one)):
                acts = acts_needed(*pair)
                lines.append("acts -" if acts is None else "acts " + str(acts))
            self.assertEqual(report(one, other).split("\n"), lines)
        self.assertEqual(words, {"alike", "better", "worse", "apart"})

    def test_as_large_as_callers_may_pass_them(self):
        rng = random.Random(145)
        with in_time(self, 60):
            e, f = [Experiment(1000, [parts(rng, 1000, 6, 0.1) for _ in range(4)]) for _ in range(2)]
            h = garbled(e, Garbling(1000, [parts(rng, 1000, 6, 0.1) for _ in range(6)]))
            self.assertEqual(report(e, h), "order better\nacts -\nacts 2")
            self.assertEqual(report(e, f)[:11], "order apart")

    def test_mismatch(self):
        for one, other in [(1, 2), (2, 1), (2, 3), (4, 3), (1, 4)]:
            expect_error(self, Mismatch(), lambda: report(uninformative(one), uninformative(other)))


if __name__ == "__main__":
    unittest.main()
