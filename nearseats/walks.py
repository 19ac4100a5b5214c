"""Walks from pair to pair of a feasible basis and an ordinal set, until both are the same columns."""

from nearseats.bases import Basis
from nearseats.errors import Dependent, Finished, InvalidRow, NotComplete, NothingLeft
from nearseats.names import is_number
from nearseats.ordinal import first_ordinal, is_ordinal, replacing_column, rest_is_idle
from nearseats.tables import Table

PUT = "put"
TAKE = "take"


def is_complete(table, columns):
    """Whether any value is a list or tuple of columns that are a complete set."""
    if not is_ordinal(table, columns):
        return False
    try:
        basis = Basis(table, columns)
    except Dependent:
        return False
    return basis.is_feasible


def complete_sets(table):
    """All complete sets, as ascending lists, in ascending order."""
    for columns in ascending_lists(table.many_columns, table.many_rows):
        if is_complete(table, columns):
            yield columns


def ascending_lists(most, many):
    """All ascending lists of so many different numbers below most, in ascending order."""
    found = list(range(many))
    while found is not None:
        yield list(found)
        found = list_behind(found, most)


def list_behind(numbers, most):
    """The next one of the ascending lists of numbers below most; None behind the last one."""
    many = len(numbers)
    free = [at for at in range(many) if numbers[at] < most - many + at]
    if not free:
        return None
    at = free[-1]
    first = numbers[at] + 1
    return numbers[:at] + list(range(first, first + many - at))


def shares_of(book, *, first=0):
    """The shares that the walk from the beginning reaches."""
    walk = Walk(Table(book), first=first)
    walk.run()
    return walk.found_shares


class Walk:
    """A walk with a first row, from the beginning or from a complete set."""

    def __init__(self, table, *, first=0, start=None):
        self.table = table
        self._log = []
        self._first = None
        if table.many_columns > table.many_rows:
            if not is_number(first, 0, table.many_rows - 1):
                raise InvalidRow(first)
            self._first = first
        if start is not None:
            if not is_complete(table, start):
                raise NotComplete()
            self._basis = Basis(table, start)
            self._ordinal = self._basis.columns()
        else:
            self._basis = Basis.idle(table)
            self._ordinal = self._basis.columns() if self._first is None else first_ordinal(table, first)

    def feasible(self):
        """The ascending list of the columns of the basis of the pair."""
        return self._basis.columns()

    def ordinal(self):
        """The ascending list of the columns of the ordinal set of the pair."""
        return list(self._ordinal)

    def basis(self):
        """The basis of the pair."""
        return self._basis

    @property
    def ended(self):
        """Whether there is no further step."""
        # Without an open deal there is no first row, and the only pair is complete.
        if self._first is None:
            return True
        if not self._log:
            return False
        if self.complete:
            return True
        kind, _, left = self._log[-1]
        return kind == PUT and rest_is_idle(self.table, self._ordinal, left)

    @property
    def complete(self):
        """Whether the basis and the ordinal set have the same columns."""
        return self._basis.columns() == self._ordinal

    @property
    def found_shares(self):
        """The shares of the pair if it is complete, otherwise None."""
        return self._basis.shares() if self.complete else None

    @property
    def many_steps(self):
        """The number of the steps that were done and not taken back."""
        return len(self._log)

    def step(self):
        """Does the next step, and returns its triple."""
        if self.ended:
            raise Finished()
        kind, column = self._due_step()
        triple = self._put(column) if kind == PUT else self._take(column)
        self._log.append(triple)
        return triple

    def log(self):
        """The triples of all steps that were done and not taken back."""
        return list(self._log)

    def run(self):
        """Does steps until the walk has ended, and returns their number."""
        before = len(self._log)
        while not self.ended:
            self.step()
        return len(self._log) - before

    def back(self):
        """Takes the last step back."""
        if not self._log:
            raise NothingLeft()
        kind, came, left = self._log.pop()
        if kind == PUT:
            # Of the columns of both bases only these two bases are feasible, so that the one that came leaves again.
            self._basis = self._basis.with_column(left)
        else:
            self._exchange_ordinal(left, came)

    def twin(self):
        """An independent walk in the same state."""
        made = Walk(self.table, first=self._first)
        made._basis = self._basis
        made._ordinal = list(self._ordinal)
        made._log = list(self._log)
        return made

    def __repr__(self):
        return f"Walk({len(self._log)} steps)"

    def _due_step(self):
        """The kind of the next step, and the column that it puts or takes away."""
        if self._log:
            kind, came, left = self._log[-1]
            return (TAKE, left) if kind == PUT else (PUT, came)
        if self.complete:
            return (TAKE, self._first) if self._first in self._ordinal else (PUT, self._first)
        feasible = self._basis.columns()
        return (PUT, [column for column in self._ordinal if column not in feasible][0])

    def _put(self, column):
        left = self._basis.leaving(column)
        self._basis = self._basis.with_column(column)
        return (PUT, column, left)

    def _take(self, column):
        came = replacing_column(self.table, self._ordinal, column)
        self._exchange_ordinal(came, column)
        return (TAKE, came, column)

    def _exchange_ordinal(self, came, left):
        """Puts one column in the place of another one in the ordinal set."""
        self._ordinal = sorted([came, *[column for column in self._ordinal if column != left]])
