"""Shares: a fraction for each open deal, and which rows of a table dominate the deals."""

from math import gcd

from nearseats.checks import is_listing
from nearseats.errors import InvalidRow, InvalidShares, NotDominating, Overfull
from nearseats.given import check_open
from nearseats.lines import with_words
from nearseats.names import is_any_number, is_number


class Shares:
    """Integers that are divided by one number below, in lowest terms."""

    def __init__(self, numbers, *, below=1):
        at = numbers_fault(numbers, below)
        if at is not None:
            raise InvalidShares(at)
        common = below
        for number in numbers:
            common = gcd(common, number)
        self.below = below // common
        self._numbers = [number // common for number in numbers]

    def numbers(self):
        """The integers above the number below."""
        return list(self._numbers)

    def share(self, at):
        """One share in its own lowest terms, a pair."""
        if not is_number(at, 0, len(self._numbers) - 1):
            raise InvalidShares(at)
        return lowest_pair(self._numbers[at], self.below)

    @property
    def is_whole(self):
        """Whether all shares are integers."""
        return self.below == 1

    def text(self):
        """The line that tells the shares."""
        return with_words(f"shares {self.below} :", [str(number) for number in self._numbers])

    def __eq__(self, other):
        return isinstance(other, Shares) and self.below == other.below and self._numbers == other._numbers

    def __len__(self):
        return len(self._numbers)

    def __bool__(self):
        return True

    def __repr__(self):
        return f"Shares({len(self._numbers)} of {self.below})"


def numbers_fault(numbers, below):
    """The index of the first of any values that is no number, -1 for the whole; None for shares."""
    if not is_listing(numbers) or not is_number(below, 1, None):
        return -1
    for at, number in enumerate(numbers):
        if not is_any_number(number):
            return at
    return None


def lowest_pair(number, below):
    """The pair of two integers in lowest terms, the second one from 1 on."""
    common = gcd(number, below)
    return (number // common, below // common)


def row_sum(table, shares, row):
    """The sum of a row, a pair of integers in lowest terms."""
    _check_kind(table, shares)
    if not is_number(row, 0, table.many_rows - 1):
        raise InvalidRow(row)
    return lowest_pair(_sums(table, shares)[row], shares.below)


def full_rows(table, shares):
    """The ascending list of the rows that are full."""
    _check_kind(table, shares)
    return [row for row, spare in enumerate(_spares(table, shares)) if spare == 0]


def dominating_row(table, shares, number):
    """The first row that dominates an open deal, or None."""
    _check_kind(table, shares)
    check_open(table.book, number)
    return _dominating_row(table, _worst_places(table, shares), number)


def is_dominating(table, shares):
    """Whether any value is dominating shares."""
    try:
        check_shares(table, shares)
    except (InvalidShares, Overfull, NotDominating):
        return False
    return True


def check_shares(table, shares):
    """Refuses any value that is no dominating shares."""
    _check_kind(table, shares)
    for at, number in enumerate(shares.numbers()):
        if number < 0:
            raise InvalidShares(at)
    for row, spare in enumerate(_spares(table, shares)):
        if spare < 0:
            raise Overfull(row)
    worst = _worst_places(table, shares)
    for number in range(len(shares)):
        if _dominating_row(table, worst, number) is None:
            raise NotDominating(number)


def _check_kind(table, shares):
    if not isinstance(shares, Shares) or len(shares) != table.book.many_open:
        raise InvalidShares(-1)


def _sums(table, shares):
    """The sum of each row, multiplied by the number below."""
    sums = [0] * table.many_rows
    for number, share in enumerate(shares.numbers()):
        for row, entry in table.parts(table.column_of(number)):
            sums[row] = sums[row] + entry * share
    return sums


def _spares(table, shares):
    """What is left of the plain bound of each row, multiplied by the number below."""
    return [table.plain_bound(row) * shares.below - told for row, told in enumerate(_sums(table, shares))]


def _worst_places(table, shares):
    """The place of the worst deal with a share above 0 that takes part in a row, for each row that is full."""
    given = [table.column_of(number) for number, share in enumerate(shares.numbers()) if share > 0]
    worst = {}
    for row in full_rows(table, shares):
        places = table.places(row)
        worst[row] = min([places[column] for column in given if table.entry(row, column) > 0])
    return worst


def _dominating_row(table, worst, number):
    """The first row that dominates an open deal; worst has what _worst_places tells."""
    column = table.column_of(number)
    for row, _ in table.parts(column):
        if row in worst and table.places(row)[column] <= worst[row]:
            return row
    return None
