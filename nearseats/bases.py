"""Bases of the columns of a table, with exact integers."""

from nearseats.errors import Dependent, InvalidColumn, InvalidColumns, NotFeasible
from nearseats.given import columns_fault
from nearseats.names import is_number
from nearseats.shares import Shares


def independent_rows(rows):
    """The greatest number of independent ones among some lists of integers of one length."""
    return _eliminated(rows)[0]


def determinant(rows):
    """The determinant of as many lists of integers as each of them has items."""
    many, last = _eliminated(rows)
    return last if many == len(rows) else 0


class Basis:
    """Independent columns of a table, one for each row, with the solution that belongs to them."""

    def __init__(self, table, columns):
        at = columns_fault(table, columns)
        if at is not None:
            raise InvalidColumns(at)
        solution = solved(table, columns)
        if solution is None:
            raise Dependent()
        self.table = table
        self.below = solution[0]
        # A dict from the columns, ascending, to their values.
        self._solution = solution[1]

    @staticmethod
    def idle(table):
        """The basis of all idle columns."""
        return Basis(table, list(range(table.many_rows)))

    def columns(self):
        """The ascending list of the columns."""
        return list(self._solution)

    def value_of(self, column):
        """The value of a column of the basis."""
        if not self._has(column):
            raise InvalidColumn(column)
        return self._solution[column]

    def weights(self, column):
        """The weights of any column of the table, by the columns of the basis."""
        if not is_number(column, 0, self.table.many_columns - 1):
            raise InvalidColumn(column)
        return list(weights_in(self._solution, self.table.parts(column)).values())

    @property
    def is_feasible(self):
        """Whether all values are positive."""
        return all([is_positive(value) for value in self._solution.values()])

    def leaving(self, column):
        """The column that leaves if a column is put into the basis."""
        return self._exchange(column)[0]

    def with_column(self, column):
        """The basis into which a column is put."""
        left, weights = self._exchange(column)
        made = Basis.idle(self.table)
        made.below, made._solution = exchanged_solution(self.below, self._solution, weights, column, left)
        return made

    def shares(self):
        """The shares of a feasible basis."""
        if not self.is_feasible:
            raise NotFeasible()
        firsts = {column: value[0] for column, value in self._solution.items()}
        deals = range(self.table.many_rows, self.table.many_columns)
        return Shares([firsts.get(column, 0) for column in deals], below=self.below)

    def __eq__(self, other):
        return isinstance(other, Basis) and self.table == other.table and self.columns() == other.columns()

    def __len__(self):
        return len(self._solution)

    def __bool__(self):
        return True

    def __repr__(self):
        return f"Basis({joined_numbers(self.columns())})"

    def _has(self, column):
        """Whether any value is a column of the basis."""
        return is_number(column, 0, None) and column in self._solution

    def _exchange(self, column):
        """The column that leaves if a column is put in, and the weights of this one."""
        if not self.is_feasible:
            raise NotFeasible()
        if not is_number(column, 0, self.table.many_columns - 1) or self._has(column):
            raise InvalidColumn(column)
        weights = weights_in(self._solution, self.table.parts(column))
        return leaving_column(self._solution, weights), weights


def joined_numbers(numbers):
    """Some numbers with single spaces between them."""
    return " ".join([str(number) for number in numbers])


def is_positive(value):
    """Whether the first item of a tuple that is not 0 is greater than 0."""
    for item in value:
        if item != 0:
            return item > 0
    return False


def solved(table, columns):
    """The number below and the values of these columns, as a dict; None if they are dependent."""
    below = 1
    solution = {row: table.bound(row) for row in range(table.many_rows)}
    for column in columns:
        if column not in solution:
            weights = weights_in(solution, table.parts(column))
            free = [other for other in solution if weights[other] != 0 and other not in columns]
            if not free:
                return None
            below, solution = exchanged_solution(below, solution, weights, column, free[0])
    return below, solution


def weights_in(solution, parts):
    """A dict from the columns of a solution to the weights of a column with these parts."""
    # The further items of the values are the inverse of the entries, since the bounds have the unit rows there.
    return {column: sum([value[row + 1] * entry for row, entry in parts]) for column, value in solution.items()}


def exchanged_solution(below, solution, weights, came, left):
    """The number below and the values behind the exchange of a column that leaves for one that comes."""
    # The sign of the number below is left out, also on the way to it.
    sign = 1 if weights[left] > 0 else -1
    pivot = sign * weights[left]
    gone = [sign * item for item in solution[left]]
    found = {came: tuple(gone)}
    for column, value in solution.items():
        if column != left:
            weight = weights[column]
            # The division is exact: all of these are determinants, by Cramer's rule.
            found[column] = tuple([(pivot * item - weight * other) // below for item, other in zip(value, gone)])
    return pivot, {column: found[column] for column in sorted(found)}


def leaving_column(solution, weights):
    """The column with a weight above 0 whose value, divided by its weight, is the least."""
    found = None
    for column, weight in weights.items():
        if weight > 0 and (found is None or is_less(solution[column], weight, solution[found], weights[found])):
            found = column
    return found


def is_less(value, weight, other, other_weight):
    """Whether a value divided by its weight is less than another one, compared from the left."""
    for item, other_item in zip(value, other):
        one = item * other_weight
        two = other_item * weight
        if one != two:
            return one < two
    return False


def _eliminated(rows):
    """The number of independent rows, and the last pivot, with the sign that the exchanges of rows give it."""
    left = list(rows)
    done = 0
    pivot = 1
    sign = 1
    for at in range(len(left[0]) if left else 0):
        found = [k for k in range(done, len(left)) if left[k][at] != 0]
        if found:
            if found[0] != done:
                left[done], left[found[0]] = left[found[0]], left[done]
                sign = -sign
            top = left[done]
            for k in range(done + 1, len(left)):
                # The division is exact, so that the integers stay as small as determinants.
                left[k] = [(top[at] * item - left[k][at] * other) // pivot for item, other in zip(left[k], top)]
            pivot = top[at]
            done += 1
    return done, sign * pivot
