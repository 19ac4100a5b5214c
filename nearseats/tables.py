"""The table of a book: rows for families and rooms, columns for idle seats and open deals."""

from nearseats.errors import InvalidColumn, InvalidRow
from nearseats.given import check_open
from nearseats.names import is_number

FAMILY = "family"
ROOM = "room"


class Table:
    """The table of a book, with the bounds of its rows, and the order of all columns in each row."""

    def __init__(self, book):
        self.book = book
        self._rows = row_pairs(book)
        self._row_at = {pair: row for row, pair in enumerate(self._rows)}
        idle = [((row, 1),) for row in range(len(self._rows))]
        self._parts = idle + [deal_parts(book, self._row_at, number) for number in range(book.many_open)]
        self._orders = [row_order(book, self._rows, row) for row in range(len(self._rows))]
        self._places = [places_in(order) for order in self._orders]

    @property
    def many_rows(self):
        """The number of rows."""
        return len(self._rows)

    @property
    def many_columns(self):
        """The number of columns."""
        return len(self._parts)

    def rows(self):
        """The pair of `family` or `room` and a name for each row."""
        return list(self._rows)

    def row_of(self, kind, name):
        """The number of a row; None for any values that are no such pair."""
        if not isinstance(kind, str) or not isinstance(name, str):
            return None
        return self._row_at.get((kind, name))

    def entry(self, row, column):
        """The entry of a column in a row."""
        self._check_row(row)
        self._check_column(column)
        return self._entry(row, column)

    def bound(self, row):
        """The bound of a row: its plain bound, and a 1 among as many zeros as there are other rows."""
        self._check_row(row)
        return (self.plain_bound(row), *[1 if other == row else 0 for other in range(len(self._rows))])

    def order(self, row):
        """All columns, the worst one in this row first."""
        self._check_row(row)
        return list(self._orders[row])

    def is_better(self, row, one, other):
        """Whether one column is better than another one in the order of a row."""
        self._check_row(row)
        self._check_column(one)
        self._check_column(other)
        return self._places[row][one] > self._places[row][other]

    def takes_part(self, row, number):
        """Whether an open deal takes part in a row."""
        self._check_row(row)
        check_open(self.book, number)
        return self._entry(row, len(self._rows) + number) > 0

    def column_of(self, number):
        """The column of an open deal."""
        check_open(self.book, number)
        return len(self._rows) + number

    def number_of_column(self, column):
        """The number of the deal of a column; None for an idle column."""
        self._check_column(column)
        return column - len(self._rows) if column >= len(self._rows) else None

    def plain_bound(self, row):
        """The first item of the bound of a row: 1 for a family, or the seats of a room."""
        kind, name = self._rows[row]
        return 1 if kind == FAMILY else self.book.room_seats(name)

    def parts(self, column):
        """The pairs of a row and an entry above 0 of a column, in a tuple."""
        return self._parts[column]

    def ranking(self, row):
        """The order of a row, as a tuple."""
        return self._orders[row]

    def places(self, row):
        """The place of each column in the order of a row, as a tuple."""
        return self._places[row]

    def __eq__(self, other):
        return isinstance(other, Table) and self.book == other.book

    def __repr__(self):
        return f"Table({len(self._rows)} rows, {len(self._parts)} columns)"

    def _check_row(self, row):
        if not is_number(row, 0, len(self._rows) - 1):
            raise InvalidRow(row)

    def _check_column(self, column):
        if not is_number(column, 0, len(self._parts) - 1):
            raise InvalidColumn(column)

    def _entry(self, row, column):
        return sum([entry for at, entry in self._parts[column] if at == row])


def row_pairs(book):
    """The pairs of `family` or `room` and a name, by the rows of the table of a book."""
    rooms = [(ROOM, name) for name in book.room_names() if book.room_seats(name) > 0]
    return [(FAMILY, name) for name in book.family_names()] + rooms


def deal_parts(book, row_at, number):
    """The pairs of a row and an entry above 0 of an open deal; row_at has the number of the row of each pair."""
    deal = book.deal(number)
    parts = [(book.family_of(number), 1)]
    for (kind, name), row in row_at.items():
        if kind == ROOM and name in deal:
            parts.append((row, deal.count(name)))
    return tuple(parts)


def row_order(book, pairs, row):
    """All columns, the worst one in a row first, as a tuple."""
    kind, name = pairs[row]
    ranked = book.numbers(name)[::-1] if kind == FAMILY else ranked_deals(book, name)
    apart = [number for number in range(book.many_open) if number not in ranked]
    deals = [len(pairs) + number for number in ranked + apart]
    return (row, *deals, *[other for other in range(len(pairs)) if other != row])


def ranked_deals(book, room):
    """The open deals that send members to a room, the worst one for the room first."""
    place = {member: at for at, member in enumerate(book.order(room))}
    keys = []
    for number in range(book.many_open):
        sent = book.sent(number, room)
        if sent:
            keys.append((-max([place[member] for member in sent]), -number))
    return [-minus for _, minus in sorted(keys)]


def places_in(order):
    """The place of each column in an order of all columns, as a tuple."""
    places = {column: at for at, column in enumerate(order)}
    return tuple([places[column] for column in range(len(order))])
