"""Linear programs: amounts of columns that make up totals, and evidence for each answer."""

from everydecider.checks import are_amounts, are_integers, is_integer
from everydecider.errors import BadProgram
from everydecider.ratios import lowest
from everydecider.tableau import Tableau


def solve(rows, totals):
    """Amounts for a program, or multipliers which show that there are none."""
    _check_program(rows, totals)
    tableau = Tableau(rows, totals)
    tableau.lessen()
    if tableau.is_short():
        return ("multipliers", lowest(tableau.worths(1)))
    unit, amounts = _in_lowest_terms(tableau.unit, tableau.amounts())
    return ("amounts", unit, amounts)


def least(rows, totals, costs):
    """The amounts that cost least, or evidence that there are none."""
    _check_program(rows, totals)
    _check_costs(rows, costs)
    tableau = Tableau(rows, totals)
    tableau.lessen()
    if tableau.is_short():
        return ("none", lowest(tableau.worths(1)))
    tableau.take_costs(costs)
    column = tableau.lessen()
    if column is None:
        # The prices belong to the unit of the amounts.
        unit, numbers = _in_lowest_terms(tableau.unit, tableau.amounts() + tableau.worths(0))
        return ("least", unit, numbers[:len(costs)], numbers[len(costs):])
    unit, amounts = _in_lowest_terms(tableau.unit, tableau.amounts())
    return ("endless", unit, amounts, lowest(tableau.way(column)))


def is_solved(rows, totals, answer):
    """Tell whether an answer of the form that solve returns is right."""
    _check_program(rows, totals)
    if answer[0] == "amounts":
        _, unit, amounts = answer
        return _are_amounts_for(rows, totals, unit, amounts)
    if answer[0] == "multipliers":
        return _are_multipliers_for(rows, totals, answer[1])
    return False


def is_least(rows, totals, costs, answer):
    """Tell whether an answer of the form that least returns is right."""
    _check_program(rows, totals)
    _check_costs(rows, costs)
    if answer[0] == "none":
        return _are_multipliers_for(rows, totals, answer[1])
    if answer[0] == "least":
        _, unit, amounts, prices = answer
        return (_are_amounts_for(rows, totals, unit, amounts) and
                _are_prices_for(rows, [cost * unit for cost in costs], prices) and
                _product(totals, prices) == _product(costs, amounts))
    if answer[0] == "endless":
        _, unit, amounts, way = answer
        return (_are_amounts_for(rows, totals, unit, amounts) and
                _make_up(rows, [0] * len(rows), way) and _product(costs, way) < 0)
    return False


def _check_program(rows, totals):
    """Refuse rows and totals that are no program."""
    if not isinstance(rows, (list, tuple)) or len(rows) == 0:
        raise BadProgram()
    for row in rows:
        if not are_integers(row) or len(row) == 0 or len(row) != len(rows[0]):
            raise BadProgram()
    if not are_integers(totals) or len(totals) != len(rows):
        raise BadProgram()


def _check_costs(rows, costs):
    """Refuse costs that are not an integer for each column."""
    if not are_integers(costs) or len(costs) != len(rows[0]):
        raise BadProgram()


def _in_lowest_terms(unit, numbers):
    """A unit and a list of integers divided by their greatest common divisor."""
    together = lowest([unit] + numbers)
    return (together[0], together[1:])


def _are_amounts_for(rows, totals, unit, amounts):
    """Tell whether these are amounts with this unit for a program."""
    if not is_integer(unit) or unit < 1:
        return False
    return _make_up(rows, [number * unit for number in totals], amounts)


def _make_up(rows, totals, amounts):
    """Tell whether these are integers of at least 0 that make up totals."""
    if not are_amounts(amounts) or len(amounts) != len(rows[0]):
        return False
    return all([_product(row, amounts) == number for row, number in zip(rows, totals)])


def _are_multipliers_for(rows, totals, numbers):
    """Tell whether these are multipliers for a program."""
    return _are_prices_for(rows, [0] * len(rows[0]), numbers) and _product(totals, numbers) > 0


def _are_prices_for(rows, limits, prices):
    """Tell whether a list has a price for each row at which no column comes to more than its limit."""
    if not are_integers(prices) or len(prices) != len(rows):
        return False
    sums = [sum([row[column] * number for row, number in zip(rows, prices)]) for column in range(len(limits))]
    return all([number <= limit for number, limit in zip(sums, limits)])


def _product(one, other):
    """The sum of the products of the items of two lists of one length."""
    return sum([number * factor for number, factor in zip(one, other)])
