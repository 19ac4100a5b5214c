"""nearseats.ordinal: ordinal sets, homes and replacements [19]."""

import unittest

from nearseats.bases import Basis
from nearseats.books import Book
from nearseats.errors import InvalidColumn, InvalidRow, NotOrdinal
from nearseats.ordinal import first_ordinal, home, is_ordinal, replacement, worst_column
from nearseats.tables import Table

import fractionbases
from randombooks import random_book
from samples import ODD_VALUES, pair_book

NO_ROWS = (None, True, False, -1, 4, 10 ** 30, "0", "c", (), (0,), [], [0], {}, {0: 0}, ("family", "c"), Book.empty())
NO_SETS = (*ODD_VALUES, "0456", {0: 0, 4: 1, 5: 2, 6: 3}, [], (), [0, 4, 5], [0, 4, 5, 6, 1], [0, 4, 5, 5],
           [0, 4, 5, 7], [-1, 4, 5, 6], [False, 4, 5, 6], [0, 4, 5, None], [0, 4, 5, "6"],
           (0, 4, 5, [6]), [[0, 4, 5, 6]])


class Ordinal(unittest.TestCase):
    # The rows are c, d, Oak, Elm; the columns 4 to 6 the open deals c : Oak Elm, d : Oak, d : Elm. The orders:
    # c 0 4 5 6 1 2 3, d 1 6 5 4 0 2 3, Oak 2 5 4 6 0 1 3, Elm 3 4 6 5 0 1 2.
    def setUp(self):
        self.table = Table(pair_book())

    def test_the_orders_of_this_table(self):
        self.assertEqual([self.table.order(row) for row in range(4)],
                         [[0, 4, 5, 6, 1, 2, 3], [1, 6, 5, 4, 0, 2, 3], [2, 5, 4, 6, 0, 1, 3], [3, 4, 6, 5, 0, 1, 2]])


class IsOrdinalTest(Ordinal):
    def test_ordinal_sets(self):
        for columns in ([0, 4, 5, 6], (6, 0, 5, 4), [1, 2, 3, 6], [0, 2, 3, 4]):
            self.assertIs(is_ordinal(self.table, columns), True)
        self.assertIs(is_ordinal(columns=[5, 4, 6, 0], table=self.table), True)

    def test_sets_that_are_not(self):
        for columns in ([0, 1, 2, 3], [1, 2, 3, 4], [0, 2, 3, 5], [2, 4, 5, 6]):
            self.assertIs(is_ordinal(self.table, columns), False)

    def test_any_value(self):
        for value in (*NO_SETS, Basis(self.table, [0, 4, 5, 6]), self.table):
            self.assertIs(is_ordinal(self.table, value), False)

    def test_without_rows_and_without_open_deals(self):
        self.assertIs(is_ordinal(Table(Book.empty()), []), True)
        self.assertIs(is_ordinal(Table(Book.empty()), ()), True)
        for value in ([0], None, {}, "", 0):
            self.assertIs(is_ordinal(Table(Book.empty()), value), False)
        table = Table(Book.read("book\nroom A 1\nfamily c 1 :\norder A :\nend\n"))
        self.assertIs(is_ordinal(table, [1, 0]), True)
        self.assertIs(is_ordinal(table, [0, 0]), False)


class WorstTest(Ordinal):
    def test_worst_column(self):
        self.assertEqual([worst_column(self.table, [0, 4, 5, 6], row) for row in range(4)], [0, 6, 5, 4])
        self.assertEqual([worst_column(self.table, [6, 5], row) for row in range(4)], [5, 6, 5, 6])
        self.assertEqual([worst_column(self.table, (3,), row) for row in range(4)], [3, 3, 3, 3])
        self.assertEqual(worst_column(row=0, columns=[1, 3, 2], table=self.table), 1)

    def test_wrong_rows(self):
        for value in NO_ROWS:
            with self.assertRaises(InvalidRow) as caught:
                worst_column(self.table, [0, 4], value)
            self.assertEqual(caught.exception.value, value)


class HomeTest(Ordinal):
    def test_home(self):
        self.assertEqual([home(self.table, [0, 4, 5, 6], column) for column in (0, 4, 5, 6)], [0, 3, 2, 1])
        self.assertEqual([home(self.table, (1, 2, 3, 6), column) for column in (1, 2, 3, 6)], [1, 2, 3, 0])
        self.assertEqual(home(column=5, columns=[6, 5, 4, 0], table=self.table), 2)

    def test_replacement(self):
        self.assertEqual([replacement(self.table, [0, 4, 5, 6], column) for column in (0, 4, 5, 6)], [3, 1, 3, 2])
        self.assertEqual(replacement(column=4, columns=(6, 5, 4, 0), table=self.table), 1)

    def test_no_replacement(self):
        self.assertIsNone(replacement(self.table, [1, 2, 3, 6], 6))
        self.assertIsNone(replacement(self.table, [0, 2, 3, 4], 4))
        one = Table(Book.read("book\nfamily c 1 :\nend\n"))
        self.assertIsNone(replacement(one, [0], 0))
        self.assertEqual(home(one, [0], 0), 0)
        idle = Table(Book.read("book\nroom A 1\nfamily c 1 :\norder A :\nend\n"))
        self.assertEqual([replacement(idle, [0, 1], column) for column in (0, 1)], [None, None])

    def test_sets_that_are_not_ordinal_come_first(self):
        for value in (*NO_SETS, [0, 1, 2, 3], [1, 2, 3, 4], self.table):
            for call in (home, replacement):
                for column in (0, 4, None, [0]):
                    with self.assertRaises(NotOrdinal):
                        call(self.table, value, column)

    def test_columns_that_are_not_in_the_set(self):
        for value in (*NO_ROWS[:4], 1, 2, 3, 7, "0", (), [0], {}, {0: 0}, self.table):
            for call in (home, replacement):
                with self.assertRaises(InvalidColumn) as caught:
                    call(self.table, [0, 4, 5, 6], value)
                self.assertEqual(caught.exception.value, value)

    def test_what_is_passed_stays(self):
        columns = [6, 5, 4, 0]
        for call in (home, replacement):
            call(self.table, columns, 4)
        is_ordinal(self.table, columns)
        worst_column(self.table, columns, 1)
        self.assertEqual(columns, [6, 5, 4, 0])


class FirstTest(Ordinal):
    def test_each_row(self):
        # In the row of c the best deal is one of d, which takes no part there.
        self.assertEqual([first_ordinal(self.table, row) for row in range(4)],
                         [[1, 2, 3, 6], [0, 2, 3, 4], [0, 1, 3, 6], [0, 1, 2, 5]])
        self.assertEqual(first_ordinal(row=2, table=self.table), [0, 1, 3, 6])

    def test_a_deal_that_takes_part(self):
        table = Table(Book.read("book\nroom A 1\nfamily c 1 : A\norder A : c.1\nend\n"))
        self.assertEqual([first_ordinal(table, row) for row in range(2)], [[1, 2], [0, 2]])

    def test_wrong_rows(self):
        idle = Table(Book.read("book\nroom A 1\nroom B 1\nfamily c 1 :\nfamily d 1 :\norder A :\norder B :\nend\n"))
        for table in (self.table, idle):
            for value in NO_ROWS:
                with self.assertRaises(InvalidRow) as caught:
                    first_ordinal(table, value)
                self.assertEqual(caught.exception.value, value)
        with self.assertRaises(InvalidRow):
            first_ordinal(Table(Book.empty()), 0)
        self.assertEqual([first_ordinal(idle, row) for row in range(4)], [[0, 1, 2, 3]] * 4)

    def test_it_is_ordinal(self):
        for seed in range(40):
            table = Table(random_book(seed, rooms=3, families=4, size=3, deals=4, seats=4))
            for row in range(table.many_rows):
                columns = first_ordinal(table, row)
                self.assertEqual(columns, sorted(columns))
                self.assertIs(is_ordinal(table, columns), True)
                if table.book.many_open:
                    self.assertEqual([column for column in range(table.many_rows) if column not in columns], [row])
                    best = columns[-1]
                    self.assertFalse(any(table.is_better(row, other, best)
                                         for other in range(table.many_rows, table.many_columns)))
                    self.assertIsNone(replacement(table, columns, best))


class FactsTest(unittest.TestCase):
    def test_all_sets_of_columns(self):
        told = [0, 0]
        for seed in range(25):
            table = Table(random_book(seed, rooms=2, families=2, size=2, deals=3))
            for columns in fractionbases.column_sets(table):
                wanted = fractionbases.is_ordinal(table, columns)
                self.assertIs(is_ordinal(table, columns), wanted)
                told[wanted] += 1
                if wanted:
                    self.check_facts(table, columns)
        self.assertGreater(min(told), 50)

    def check_facts(self, table, columns):
        homes = [home(table, columns, column) for column in columns]
        self.assertEqual(sorted(homes), list(range(table.many_rows)))
        for column, row in zip(columns, homes):
            self.assertEqual(worst_column(table, columns, row), column)
            rest = [other for other in columns if other != column]
            found = [other for other in range(table.many_columns) if other not in columns
                     and fractionbases.is_ordinal(table, [*rest, other])]
            told = replacement(table, columns, column)
            if all(other < table.many_rows for other in rest):
                self.assertEqual((told, found), (None, []))
            else:
                self.assertEqual(found, [told])
                # The replacement taken away again gives the first set.
                self.assertEqual(replacement(table, [*rest, told], told), column)


if __name__ == "__main__":
    unittest.main()
