"""nearseats.tables: rows, columns, bounds and orders [15] [16]."""

import functools
import unittest

from nearseats.books import Book
from nearseats.errors import InvalidColumn, InvalidRow, UnknownDeal
from nearseats.tables import Table

from randombooks import random_book
from samples import ODD_VALUES, pair_book

TEXT = ("book\nroom Oak 2\nroom Ash 0\nroom c 1\nroom Yew 13\n"
        "family c 2 : Oak c | Oak Oak | Ash - | - Yew\nfamily d 1 : c | Yew\nfamily e 2 : Yew Yew | Oak - | Oak Yew\n"
        "family f 1 :\n"
        "order Oak : e.1 c.2 c.1\norder Ash : c.1\norder c : d.1 c.2\norder Yew : c.2 e.2 d.1 e.1\nend\n")
# The open deals: c 0, 1 and 2, d 3 and 4, e 5, 6 and 7. The rows: c, d, e, f, Oak, the room c, Yew.

NO_ROWS = (None, True, False, -1, 7, 10 ** 30, "0", "c", (), (0,), [], [0], {}, {0: 0}, ("family", "c"), Book.empty())
NO_COLUMNS = (None, True, False, -1, 15, 10 ** 30, "0", "c", (), (0,), [], [0], {}, {0: 0}, ("Oak", "c"), Book.empty())
NO_DEALS = (None, True, False, -1, 8, 10 ** 30, "0", "c", (), (0,), [], [0], {}, {0: 0}, ("Oak", "c"), Book.empty())


class Tables(unittest.TestCase):
    def setUp(self):
        self.book = Book.read(TEXT)
        self.table = Table(self.book)

    def check_row(self, call):
        for value in NO_ROWS:
            with self.assertRaises(InvalidRow) as caught:
                call(value)
            self.assertEqual(caught.exception.value, value)

    def check_column(self, call):
        for value in NO_COLUMNS:
            with self.assertRaises(InvalidColumn) as caught:
                call(value)
            self.assertEqual(caught.exception.value, value)

    def check_deal(self, call):
        for value in NO_DEALS:
            with self.assertRaises(UnknownDeal) as caught:
                call(value)
            self.assertEqual(caught.exception.value, value)


class RowsTest(Tables):
    def test_rows(self):
        rows = [("family", "c"), ("family", "d"), ("family", "e"), ("family", "f"), ("room", "Oak"), ("room", "c"),
                ("room", "Yew")]
        self.assertEqual((self.table.rows(), self.table.many_rows, self.table.many_columns), (rows, 7, 15))
        self.table.rows().clear()
        self.assertEqual(self.table.rows(), rows)
        self.assertIs(self.table.book, self.book)

    def test_row_of(self):
        for row, (kind, name) in enumerate(self.table.rows()):
            self.assertEqual(self.table.row_of(kind, name), row)
        self.assertEqual(self.table.row_of(name="c", kind="room"), 5)

    def test_row_of_other_values(self):
        for kind, name in (("room", "Ash"), ("family", "Oak"), ("room", "d"), ("Family", "c"), ("", ""),
                           ("room", "oak"), ("family", "c.1"), ("roomOak", ""), ("column", "c")):
            self.assertIsNone(self.table.row_of(kind, name))
        for value in (*ODD_VALUES, self.table):
            self.assertIsNone(self.table.row_of("family", value))
            self.assertIsNone(self.table.row_of(value, "c"))
            self.assertIsNone(self.table.row_of(value, value))


class EntriesTest(Tables):
    def test_idle_columns(self):
        for row in range(7):
            self.assertEqual([self.table.entry(row, column) for column in range(7)],
                             [1 if column == row else 0 for column in range(7)])

    def test_columns_of_deals(self):
        wanted = [[1, 0, 0, 0, 1, 1, 0], [1, 0, 0, 0, 2, 0, 0], [1, 0, 0, 0, 0, 0, 1], [0, 1, 0, 0, 0, 1, 0],
                  [0, 1, 0, 0, 0, 0, 1], [0, 0, 1, 0, 0, 0, 2], [0, 0, 1, 0, 1, 0, 0], [0, 0, 1, 0, 1, 0, 1]]
        for number, entries in enumerate(wanted):
            self.assertEqual([self.table.entry(row, 7 + number) for row in range(7)], entries)
            self.assertEqual([self.table.takes_part(row, number) for row in range(7)], [entry > 0 for entry in entries])
        self.assertEqual(self.table.entry(column=8, row=4), 2)
        self.assertIs(self.table.takes_part(number=1, row=4), True)

    def test_bounds(self):
        self.assertEqual([self.table.bound(row)[0] for row in range(7)], [1, 1, 1, 1, 2, 1, 13])
        self.assertEqual(self.table.bound(0), (1, 1, 0, 0, 0, 0, 0, 0))
        self.assertEqual(self.table.bound(row=6), (13, 0, 0, 0, 0, 0, 0, 1))
        self.assertEqual(self.table.bound(4), (2, 0, 0, 0, 0, 1, 0, 0))

    def test_columns_and_numbers(self):
        self.assertEqual([self.table.column_of(number) for number in range(8)], list(range(7, 15)))
        self.assertEqual([self.table.number_of_column(column) for column in range(15)], [None] * 7 + list(range(8)))
        self.assertEqual((self.table.column_of(number=2), self.table.number_of_column(column=9)), (9, 2))

    def test_wrong_rows_columns_and_deals(self):
        self.check_row(lambda value: self.table.entry(value, 0))
        self.check_row(lambda value: self.table.entry(value, 15))
        self.check_row(self.table.bound)
        self.check_row(lambda value: self.table.takes_part(value, 0))
        self.check_row(lambda value: self.table.takes_part(value, None))
        self.check_column(lambda value: self.table.entry(0, value))
        self.check_column(self.table.number_of_column)
        self.check_deal(lambda value: self.table.takes_part(0, value))
        self.check_deal(self.table.column_of)


class OrderTest(Tables):
    def test_rows_of_families(self):
        self.assertEqual(self.table.order(0), [0, 9, 8, 7, 10, 11, 12, 13, 14, 1, 2, 3, 4, 5, 6])
        self.assertEqual(self.table.order(1), [1, 11, 10, 7, 8, 9, 12, 13, 14, 0, 2, 3, 4, 5, 6])
        self.assertEqual(self.table.order(row=3), [3, 7, 8, 9, 10, 11, 12, 13, 14, 0, 1, 2, 4, 5, 6])

    def test_rows_of_rooms(self):
        # In Oak c.1 is the last member of the deals 0 and 1, and e.1 that of 6 and 7.
        self.assertEqual(self.table.order(4), [4, 8, 7, 14, 13, 9, 10, 11, 12, 0, 1, 2, 3, 5, 6])
        self.assertEqual(self.table.order(5), [5, 7, 10, 8, 9, 11, 12, 13, 14, 0, 1, 2, 3, 4, 6])
        # In Yew the last members are e.1, d.1, e.2 and c.2.
        self.assertEqual(self.table.order(6), [6, 12, 11, 14, 9, 7, 8, 10, 13, 0, 1, 2, 3, 4, 5])

    def test_the_last_member_counts_and_no_other_one(self):
        book = Book.read("book\nroom A 2\nfamily c 2 : A A\nfamily d 1 : A\nfamily e 2 : - A | A A | A -\n"
                         "order A : c.1 e.1 d.1 e.2 c.2\nend\n")
        self.assertEqual(Table(book).order(3), [3, 4, 7, 6, 5, 8, 0, 1, 2])

    def test_what_is_told_is_new(self):
        self.table.order(0).clear()
        self.assertEqual(self.table.order(0)[:3], [0, 9, 8])

    def test_is_better(self):
        for row in range(7):
            order = self.table.order(row)
            self.assertEqual(sorted(order), list(range(15)))
            for at, one in enumerate(order):
                for other in range(15):
                    self.assertIs(self.table.is_better(row, one, other), other in order[:at])
        self.assertIs(self.table.is_better(other=8, one=7, row=4), True)

    def test_wrong_rows_and_columns(self):
        self.check_row(self.table.order)
        self.check_row(lambda value: self.table.is_better(value, 0, 1))
        self.check_row(lambda value: self.table.is_better(value, None, 15))
        self.check_column(lambda value: self.table.is_better(0, value, 1))
        self.check_column(lambda value: self.table.is_better(0, value, None))
        self.check_column(lambda value: self.table.is_better(0, 1, value))
        with self.assertRaises(InvalidColumn) as caught:
            self.table.is_better(0, 15, 16)
        self.assertEqual(caught.exception.value, 15)


class ObjectTest(Tables):
    def test_equality(self):
        self.assertTrue(self.table == Table(book=Book.read(TEXT)))
        self.assertFalse(self.table != Table(Book.read(TEXT)))
        self.assertFalse(self.table == Table(Book.read(TEXT.replace("Oak 2", "Oak 3"))))
        for value in (*ODD_VALUES, self.book):
            self.assertFalse(self.table == value)
            self.assertTrue(self.table != value)

    def test_repr(self):
        self.assertEqual((repr(self.table), repr(Table(pair_book()))),
                         ("Table(7 rows, 15 columns)", "Table(4 rows, 7 columns)"))

    def test_without_families(self):
        table = Table(Book.read("book\nroom A 1\nroom B 0\nroom C 3\norder A :\norder B :\norder C :\nend\n"))
        self.assertEqual((table.rows(), table.many_columns), ([("room", "A"), ("room", "C")], 2))
        self.assertEqual([table.bound(row) for row in (0, 1)], [(1, 1, 0), (3, 0, 1)])
        self.assertEqual([table.order(row) for row in (0, 1)], [[0, 1], [1, 0]])

    def test_without_rooms_and_open_deals(self):
        table = Table(Book.read("book\nfamily c 1 :\nfamily d 3 :\nend\n"))
        self.assertEqual((table.rows(), table.many_columns), ([("family", "c"), ("family", "d")], 2))
        self.assertEqual(table.order(1), [1, 0])
        with self.assertRaises(UnknownDeal):
            table.column_of(0)
        closed = Table(Book.read("book\nroom A 0\nfamily c 1 : A\norder A : c.1\nend\n"))
        self.assertEqual((closed.rows(), closed.many_columns, repr(closed)),
                         ([("family", "c")], 1, "Table(1 rows, 1 columns)"))

    def test_without_rows(self):
        for text in ("book\nend\n", "book\nroom A 0\norder A :\nend\n"):
            table = Table(Book.read(text))
            self.assertEqual((table.rows(), table.many_rows, table.many_columns), ([], 0, 0))
            self.assertEqual(repr(table), "Table(0 rows, 0 columns)")
            for call in (table.bound, table.order, lambda row: table.entry(row, 0)):
                with self.assertRaises(InvalidRow):
                    call(0)
            with self.assertRaises(InvalidColumn):
                table.number_of_column(0)


def naive_group(table, row, column):
    """Which of the four parts of [16] a column belongs to."""
    if column == row:
        return 0
    if column < table.many_rows:
        return 3
    return 1 if table.entry(row, column) else 2


def naive_compare(table, row, one, other):
    """-1 if one column is worse than the other one in a row, by the words of [16]; 1 if it is better."""
    group, other_group = naive_group(table, row, one), naive_group(table, row, other)
    if group != other_group:
        return -1 if group < other_group else 1
    if group == 1:
        kind, name = table.rows()[row]
        number, other_number = one - table.many_rows, other - table.many_rows
        if kind == "room":
            order = table.book.order(name)
            last, other_last = [max(order.index(member) for member in table.book.sent(at, name))
                                for at in (number, other_number)]
            if last != other_last:
                return -1 if last > other_last else 1
        return -1 if one > other else 1
    return -1 if one < other else 1


class ChanceTest(unittest.TestCase):
    def test_orders_of_books_by_chance(self):
        for seed in range(40):
            table = Table(random_book(seed, rooms=3, families=4, size=3, deals=4, seats=4))
            for row in range(table.many_rows):
                key = functools.cmp_to_key(lambda one, other: naive_compare(table, row, one, other))
                self.assertEqual(table.order(row), sorted(range(table.many_columns), key=key))

    def test_entries_of_books_by_chance(self):
        for seed in range(40):
            book = random_book(seed, rooms=3, families=4, size=3, deals=4, seats=4)
            table = Table(book)
            for row, (kind, name) in enumerate(table.rows()):
                wanted = [1 if kind == "family" else book.room_seats(name)]
                self.assertEqual(list(table.bound(row)), wanted + [int(at == row) for at in range(table.many_rows)])
                for number in range(book.many_open):
                    entry = len(book.sent(number, name)) if kind == "room" else int(number in book.numbers(name))
                    self.assertEqual(table.entry(row, table.column_of(number)), entry)


if __name__ == "__main__":
    unittest.main()
