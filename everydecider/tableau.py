"""The simplex method on a table of integers.

All numbers of a table are kept multiplied by one unit of at least 1. A step
from one basis to the next then needs only divisions without a remainder, and
no number is greater than a determinant of the program that it began with.
"""


class Tableau:
    """A program whose totals are reached by amounts of the columns of a basis.

    To each row belongs an extra column, with a 1 in this row, which stands for
    what the amounts fall short of the total. A line has the columns of the
    program, then the extra ones, then the total. The bottom line has the costs
    of the columns beyond what the basis would cost in their place.
    """

    def __init__(self, rows, totals):
        size = len(rows)
        self.columns = len(rows[0])
        self.signs = [-1 if number < 0 else 1 for number in totals]
        self.lines = []
        for at, row in enumerate(rows):
            sign = self.signs[at]
            extra = [int(place == at) for place in range(size)]
            self.lines.append([sign * number for number in row] + extra + [sign * totals[at]])
        self.basis = [self.columns + at for at in range(size)]
        self.unit = 1
        # At first only the extra columns have costs, a unit each.
        sums = [sum([line[place] for line in self.lines]) for place in range(self.columns)]
        self.bottom = [-number for number in sums] + [0] * size + [-sum([line[-1] for line in self.lines])]

    def lessen(self):
        """Make the costs as small as they can be.

        The answer is None, or a column of which more and more makes them ever
        smaller.
        """
        while True:
            column = self._entering()
            if column is None:
                return None
            at = self._leaving(column)
            if at is None:
                return column
            self._exchange(at, column)

    # Where amounts stay 0, many steps lead nowhere, and a search could go round
    # in a circle. It does not if of all columns that may enter, and of all that
    # may leave, the first one is taken each time (the rule of Bland).

    def _entering(self):
        """The first column that lessens the costs, or None."""
        for column in range(self.columns):
            if self.bottom[column] < 0:
                return column
        return None

    def _leaving(self, column):
        """The row whose amount first comes to 0 when a column enters, or None if none does."""
        found = None
        for at, line in enumerate(self.lines):
            if line[column] > 0 and (found is None or self._is_sooner(at, found, column)):
                found = at
        return found

    def _is_sooner(self, at, other, column):
        """Tell whether the amount of one row comes to 0 before that of another one, or has an earlier column."""
        one = self.lines[at][-1] * self.lines[other][column]
        two = self.lines[other][-1] * self.lines[at][column]
        return one < two or (one == two and self.basis[at] < self.basis[other])

    def _exchange(self, at, column):
        """Put a column into the basis in the place of the one of a row."""
        line = self.lines[at]
        if line[column] < 0:
            line = [-number for number in line]
        cleared = [_without(other, line, column, self.unit) for other in self.lines]
        cleared[at] = line
        self.lines = cleared
        self.bottom = _without(self.bottom, line, column, self.unit)
        self.basis[at] = column
        self.unit = line[column]

    def is_short(self):
        """Tell whether the amounts fall short of the totals."""
        return self.bottom[-1] != 0

    def take_costs(self, costs):
        """Take other costs, for amounts that reach the totals, and clear the extra columns."""
        size = len(self.lines)
        for at in range(size):
            if self.basis[at] >= self.columns:
                self._drive_out(at)
        whole = list(costs) + [0] * (size + 1)
        paid = [whole[column] for column in self.basis]
        self.bottom = [self.unit * cost - sum([pay * line[place] for pay, line in zip(paid, self.lines)])
                       for place, cost in enumerate(whole)]

    def _drive_out(self, at):
        """Exchange an extra column of the basis, whose amount is 0, if any other can take its place."""
        for column in range(self.columns):
            if self.lines[at][column] != 0:
                self._exchange(at, column)
                return
        # All columns have 0 here: the row is a sum of others, and it stays so.

    def amounts(self):
        """The amounts of the columns, multiplied by the unit."""
        return self._of_columns([line[-1] for line in self.lines])

    def way(self, column):
        """How the amounts change when a unit of a column is added."""
        changes = self._of_columns([-line[column] for line in self.lines])
        changes[column] = self.unit
        return changes

    def _of_columns(self, numbers):
        """Numbers of the rows, each at the place of the column that the row has in the basis."""
        answer = [0] * self.columns
        for column, number in zip(self.basis, numbers):
            if column < self.columns:
                answer[column] = number
        return answer

    def worths(self, cost):
        """What one more of each total costs, multiplied by the unit, if the extra columns have a cost."""
        extra = self.bottom[self.columns:-1]
        return [sign * (self.unit * cost - number) for sign, number in zip(self.signs, extra)]


def _without(line, other, column, unit):
    """A line plus as much of another one as makes its number in a column 0, over the new unit."""
    factor, worth = line[column], other[column]
    if factor == 0:
        return [number * worth // unit for number in line]
    return [(number * worth - factor * taken) // unit for number, taken in zip(line, other)]
