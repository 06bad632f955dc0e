"""Texts of experiments, garblings, decisions and benches, and reports on two experiments."""

from everydecider.bench import Bench
from everydecider.comparing import order
from everydecider.decimals import integer_text, read_integer
from everydecider.decisions import Decision
from everydecider.errors import BadLine
from everydecider.experiments import Experiment
from everydecider.fewacts import acts_needed
from everydecider.garblings import Garbling

_MOST_DIGITS = 30


def text_of(thing):
    """The text of an experiment, a garbling, a decision or a bench."""
    if isinstance(thing, Bench):
        texts = [_text(f"put {name}", [thing[name].unit], thing[name].rows()) for name in thing.names()]
        return "\n".join([_text("bench", [thing.states], [])] + texts)
    if isinstance(thing, Decision):
        return _text("decision", thing.prior(), thing.payoffs())
    if isinstance(thing, Garbling):
        return _text("garbling", [thing.unit], thing.rows())
    return _text("experiment", [thing.unit], thing.rows())


def read_experiment(text):
    """The experiment with a text."""
    unit, rows = _unit_and_rows(text, "experiment")
    return Experiment(unit, rows)


def read_garbling(text):
    """The garbling with a text."""
    unit, rows = _unit_and_rows(text, "garbling")
    return Garbling(unit, rows)


def read_decision(text):
    """The decision with a text."""
    lines = text.split("\n")
    prior = _header(lines, "decision")
    return Decision(_rows(lines, 1, len(lines)), prior)


def read_bench(text):
    """The bench with a text."""
    lines = text.split("\n")
    states = _only_number(_header(lines, "bench"))
    parts = []
    at = 1
    while at < len(lines):
        name, unit = _put_words(lines[at], at + 1)
        rows = _rows(lines, at + 1, at + 1 + states)
        parts.append((name, unit, rows))
        at += 1 + len(rows)
    bench = Bench(states)
    for name, unit, rows in parts:
        bench.put(name, Experiment(unit, rows))
    bench.forget()
    return bench


def report(one, other):
    """A text that tells how two experiments compare."""
    lines = [f"order {order(one, other)}"]
    for needed in [acts_needed(one, other), acts_needed(other, one)]:
        lines.append("acts -" if needed is None else f"acts {needed}")
    return "\n".join(lines)


def _text(head, numbers, rows):
    """A line with a head and numbers, and a line for each row."""
    return "\n".join([f"{head} {_numbers_text(numbers)}"] + [_numbers_text(row) for row in rows])


def _numbers_text(numbers):
    """Integers with spaces between them."""
    return " ".join([integer_text(number) for number in numbers])


def _header(lines, head):
    """The integers behind the head of the first line, at least one."""
    words = lines[0].split(" ")
    if words[0] != head:
        raise BadLine(1)
    return _integers(words[1:], 1)


def _only_number(numbers):
    """The integer of a first line that has one."""
    if len(numbers) != 1:
        raise BadLine(1)
    return numbers[0]


def _unit_and_rows(text, head):
    """The unit behind a head, and the rows below it."""
    lines = text.split("\n")
    unit = _only_number(_header(lines, head))
    return (unit, _rows(lines, 1, len(lines)))


def _rows(lines, start, end):
    """The integers of the lines from an index to another one, which the text may not reach."""
    rows = [_integers(lines[at].split(" "), at + 1) for at in range(start, min(end, len(lines)))]
    if end > len(lines):
        raise BadLine(len(lines) + 1)
    return rows


def _put_words(line, number):
    """The name and the unit of a line above the rows of an experiment of a bench."""
    words = line.split(" ")
    if len(words) != 3 or words[0] != "put" or not _is_word(words[1]):
        raise BadLine(number)
    return (words[1], _integers(words[2:], number)[0])


def _is_word(word):
    """Tell whether this is a word: not empty, and without white space of any kind."""
    return word != "" and not any([letter.isspace() for letter in word])


def _integers(words, number):
    """The integers of words, at least one, in the line with this number."""
    numbers = [_integer(word) for word in words]
    if numbers == [] or any([one is None for one in numbers]):
        raise BadLine(number)
    return numbers


def _integer(word):
    """The integer of a word, or None."""
    # Longer ones need not be read at all, and Python refuses to read very long ones.
    if len(word.removeprefix("-")) > _MOST_DIGITS:
        return None
    return read_integer(word)
