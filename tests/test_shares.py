"""nearseats.shares: shares, the sums of rows, and rows that dominate [22] [23]."""

import random
import unittest
from fractions import Fraction

from nearseats.assignments import Assignment
from nearseats.blocking import is_stable
from nearseats.books import Book
from nearseats.errors import InvalidRow, InvalidShares, NotDominating, Overfull, UnknownDeal
from nearseats.shares import Shares, check_shares, dominating_row, full_rows, is_dominating, row_sum
from nearseats.tables import Table

from randombooks import random_book
from samples import ODD_VALUES, pair_book

NO_LISTS = tuple(value for value in ODD_VALUES if not isinstance(value, (list, tuple)))
NO_NUMBERS = (None, True, False, "1", "", (), (1,), [], [1], {}, {1: 1}, Book.empty(), Shares([1]))


class SharesTest(unittest.TestCase):
    def check(self, numbers, below, wanted, wanted_below):
        shares = Shares(numbers, below=below)
        self.assertEqual((shares.numbers(), shares.below), (wanted, wanted_below))

    def test_lowest_terms(self):
        self.check([2, 4, 6], 8, [1, 2, 3], 4)
        self.check([2, 4, 6], 2, [1, 2, 3], 1)
        self.check([3, 4], 6, [3, 4], 6)
        self.check([6, 9, 0], 12, [2, 3, 0], 4)
        self.check((5,), 5, [1], 1)
        self.assertEqual(Shares([4, 6]).numbers(), [4, 6])
        self.assertEqual(Shares(numbers=[4, 6], below=4).numbers(), [2, 3])

    def test_all_0_and_none(self):
        self.check([0, 0], 7, [0, 0], 1)
        self.check([], 7, [], 1)
        self.check((), 1, [], 1)

    def test_below_0(self):
        self.check([-2, 4], 6, [-1, 2], 3)
        self.check([-3], 3, [-1], 1)
        self.check([0, -5], 10, [0, -1], 2)
        self.check([-3, 2], 5, [-3, 2], 5)

    def test_many_digits(self):
        great = 3 ** 2000
        self.check([great * 4, -great * 6], great * 10, [2, -3], 5)
        self.check([great, 1], great * 2, [great, 1], great * 2)

    def test_wrong_wholes(self):
        for value in (*NO_LISTS, "12", Shares([1]), 10 ** 30):
            self.check_fault(-1, value, 1)
        for value in (*(value for value in ODD_VALUES if value not in (1, 5)), True, 0, -3, "1", Shares([1])):
            for numbers in ([1, 2], [None], None):
                self.check_fault(-1, numbers, value)

    def test_the_first_wrong_item(self):
        for value in NO_NUMBERS:
            self.check_fault(0, [value, value], 1)
            self.check_fault(2, (1, 10 ** 30, value, None), 3)

    def check_fault(self, at, numbers, below):
        with self.assertRaises(InvalidShares) as caught:
            Shares(numbers, below=below)
        self.assertEqual(caught.exception.at, at, (numbers, below))

    def test_below_is_passed_by_name(self):
        with self.assertRaises(TypeError):
            Shares([1, 2], 3)

    def test_share(self):
        shares = Shares([6, -4, 0, 12, 5], below=12)
        self.assertEqual([shares.share(at) for at in range(5)], [(1, 2), (-1, 3), (0, 1), (1, 1), (5, 12)])
        self.assertEqual(shares.share(at=1), (-1, 3))
        self.assertIsInstance(shares.share(0), tuple)
        for value in (None, True, False, -1, 5, 10 ** 30, "0", (), (0,), [], {}, {0: 0}, shares):
            with self.assertRaises(InvalidShares) as caught:
                shares.share(value)
            self.assertEqual(caught.exception.at, value)
        with self.assertRaises(InvalidShares):
            Shares([]).share(0)

    def test_is_whole(self):
        self.assertEqual([Shares(numbers, below=below).is_whole for numbers, below in
                          (([1, 0], 1), ([4, -2], 2), ([], 5), ([0], 5), ([1], 2), ([2, 1], 2))],
                         [True, True, True, True, False, False])

    def test_text(self):
        self.assertEqual(Shares([2, 0, -2], below=4).text(), "shares 2 : 1 0 -1")
        self.assertEqual((Shares([]).text(), Shares([], below=3).text(), Shares([7]).text()),
                         ("shares 1 :", "shares 1 :", "shares 1 : 7"))
        self.assertEqual(len(Shares([10 ** 3999]).text()), 4000 + len("shares 1 : "))

    def test_equality(self):
        shares = Shares([1, 2], below=3)
        self.assertTrue(shares == Shares((2, 4), below=6))
        self.assertFalse(shares != Shares((2, 4), below=6))
        others = (Shares([1, 2]), Shares([1, 2, 0], below=3), Shares([2, 1], below=3), Shares([1, 2], below=5))
        for other in (*others, *ODD_VALUES):
            self.assertFalse(shares == other)
            self.assertTrue(shares != other)

    def test_len_truth_and_repr(self):
        for numbers in ([], [0], [1, 2, 3]):
            self.assertEqual(len(Shares(numbers)), len(numbers))
            self.assertIs(bool(Shares(numbers)), True)
        self.assertEqual(repr(Shares([2, 4, 6], below=4)), "Shares(3 of 2)")
        self.assertEqual(repr(Shares([], below=4)), "Shares(0 of 1)")

    def test_lists_that_are_changed(self):
        numbers = [1, 2]
        shares = Shares(numbers, below=2)
        numbers.append(3)
        shares.numbers().clear()
        self.assertEqual(shares.numbers(), [1, 2])


class Rows(unittest.TestCase):
    # Columns 0 to 3 are idle; the rows are c, d, Oak, Elm; the open deals c : Oak Elm, d : Oak, d : Elm.
    def setUp(self):
        self.table = Table(pair_book())
        self.half = Shares([1, 1, 1], below=2)
        self.wrong = (None, True, 1, "shares 2 : 1 1 1", [1, 1, 1], (1, 1, 1), {}, self.table, Shares([]),
                      Shares([1, 1]), Shares([1, 1, 1, 1]))

    def check_kind(self, call):
        for value in self.wrong:
            with self.assertRaises(InvalidShares) as caught:
                call(value)
            self.assertEqual(caught.exception.at, -1)


class RowsTest(Rows):
    def test_row_sum(self):
        self.assertEqual([row_sum(self.table, self.half, row) for row in range(4)], [(1, 2), (1, 1), (1, 1), (1, 1)])
        self.assertEqual([row_sum(self.table, Shares([2, -3, 3], below=9), row) for row in range(4)],
                         [(2, 9), (0, 1), (-1, 9), (5, 9)])
        self.assertEqual(row_sum(row=0, shares=Shares([4, 0, 0], below=6), table=self.table), (2, 3))

    def test_several_members_in_a_room(self):
        table = Table(Book.read("book\nroom A 5\nfamily c 3 : A A - | A A A\norder A : c.1 c.2 c.3\nend\n"))
        self.assertEqual(row_sum(table, Shares([1, 1], below=2), 1), (5, 2))
        self.assertEqual(full_rows(table, Shares([1, 1], below=2)), [0])
        self.assertEqual(full_rows(table, Shares([5, 0], below=2)), [1])

    def test_row_sum_of_wrong_values(self):
        self.check_kind(lambda shares: row_sum(self.table, shares, 0))
        self.check_kind(lambda shares: row_sum(self.table, shares, None))
        for value in (None, True, False, -1, 4, 10 ** 30, "0", (), [0], {}, ("family", "c"), self.half):
            with self.assertRaises(InvalidRow) as caught:
                row_sum(self.table, self.half, value)
            self.assertEqual(caught.exception.value, value)

    def test_full_rows(self):
        self.assertEqual(full_rows(self.table, self.half), [1, 2, 3])
        self.assertEqual(full_rows(self.table, Shares([1, 0, 0])), [0, 2, 3])
        self.assertEqual(full_rows(self.table, Shares([0, 0, 0])), [])
        self.assertEqual(full_rows(shares=Shares([2, -1, 5]), table=self.table), [2])
        self.check_kind(lambda shares: full_rows(self.table, shares))

    def test_dominating_row(self):
        self.assertEqual([dominating_row(self.table, self.half, number) for number in range(3)], [3, 2, 1])
        self.assertEqual([dominating_row(self.table, Shares([1, 0, 0]), number) for number in range(3)], [0, 2, None])
        self.assertEqual([dominating_row(self.table, Shares([0, 1, 0]), number) for number in range(3)], [None, 1, 1])
        self.assertEqual([dominating_row(self.table, Shares([0, 0, 1]), number) for number in range(3)], [3, None, 1])
        self.assertEqual(dominating_row(number=0, shares=Shares([0, 0, 1]), table=self.table), 3)

    def test_shares_below_0_do_not_stand_in_the_way(self):
        # The row of d is full with the deal 1 alone, and the deal 2 counts for nothing there.
        self.assertEqual(dominating_row(self.table, Shares([0, 2, -1]), 1), 1)
        self.assertEqual(dominating_row(self.table, Shares([0, 2, -1]), 2), 1)
        self.assertIsNone(dominating_row(self.table, Shares([0, -1, 2]), 1))

    def test_dominating_row_of_wrong_values(self):
        self.check_kind(lambda shares: dominating_row(self.table, shares, 0))
        self.check_kind(lambda shares: dominating_row(self.table, shares, None))
        for value in (None, True, False, -1, 3, 10 ** 30, "0", (), [0], {}, ("Oak",), self.half):
            with self.assertRaises(UnknownDeal) as caught:
                dominating_row(self.table, self.half, value)
            self.assertEqual(caught.exception.value, value)


class CheckTest(Rows):
    def check(self, error, name, value, shares):
        with self.assertRaises(error) as caught:
            check_shares(self.table, shares)
        self.assertEqual(getattr(caught.exception, name), value)
        self.assertIs(is_dominating(self.table, shares), False)

    def test_dominating_shares(self):
        self.assertIsNone(check_shares(self.table, self.half))
        self.assertIs(is_dominating(self.table, self.half), True)
        self.assertIs(is_dominating(shares=Shares([2, 2, 2], below=4), table=self.table), True)
        self.assertIsNone(check_shares(shares=self.half, table=self.table))

    def test_values_that_are_no_shares(self):
        self.check_kind(lambda shares: check_shares(self.table, shares))
        for value in (*ODD_VALUES, *self.wrong):
            self.assertIs(is_dominating(self.table, value), False)

    def test_shares_below_0(self):
        self.check(InvalidShares, "at", 1, Shares([9, -1, -1]))
        self.check(InvalidShares, "at", 0, Shares([-1, -1, 3], below=2))
        self.check(InvalidShares, "at", 2, Shares([1, 1, -1], below=2))

    def test_a_row_with_too_great_a_sum(self):
        self.check(Overfull, "at", 0, Shares([3, 3, 3], below=2))
        self.check(Overfull, "at", 1, Shares([0, 2, 1], below=2))
        self.check(Overfull, "at", 2, Shares([2, 1, 0], below=2))
        self.check(Overfull, "at", 3, Shares([2, 0, 1], below=2))

    def test_a_deal_that_no_row_dominates(self):
        self.check(NotDominating, "number", 0, Shares([0, 0, 0]))
        self.check(NotDominating, "number", 2, Shares([1, 0, 0]))
        self.check(NotDominating, "number", 0, Shares([0, 1, 0]))
        self.check(NotDominating, "number", 1, Shares([0, 0, 1]))
        self.check(NotDominating, "number", 2, Shares([2, 1, 1], below=3))

    def test_a_row_in_which_the_deal_takes_no_part_does_not_dominate(self):
        book = Book.read("book\nroom A 1\nroom B 1\nfamily c 1 : A\nfamily d 1 : B\n"
                         "order A : c.1\norder B : d.1\nend\n")
        with self.assertRaises(NotDominating) as caught:
            check_shares(Table(book), Shares([1, 0]))
        self.assertEqual(caught.exception.number, 1)
        self.assertIsNone(check_shares(Table(book), Shares([1, 1])))

    def test_without_open_deals(self):
        for text in ("book\nend\n", "book\nroom A 2\nfamily c 1 :\norder A :\nend\n"):
            table = Table(Book.read(text))
            self.assertIs(is_dominating(table, Shares([])), True)
            self.assertIsNone(check_shares(table, Shares([])))
            self.assertEqual(full_rows(table, Shares([])), [])
            self.assertIs(is_dominating(table, Shares([0])), False)

    def test_by_the_words_of_the_document(self):
        told = [0, 0]
        for seed in range(300):
            table = Table(random_book(seed, rooms=2, families=2, deals=2))
            chance = random.Random(seed)
            below = chance.randint(1, 2)
            shares = Shares([chance.randint(0, below) for _ in range(table.book.many_open)], below=below)
            for number in range(table.book.many_open):
                rows = naive_rows(table, shares, number)
                self.assertEqual(dominating_row(table, shares, number), rows[0] if rows else None)
            wanted = naive_dominating(table, shares)
            self.assertIs(is_dominating(table, shares), wanted)
            told[wanted] += 1
        self.assertGreater(min(told), 20)

    def test_whole_dominating_shares_are_stable(self):
        # The further fact of [23].
        told = 0
        for seed in range(200):
            table = Table(random_book(seed, rooms=2, families=2, deals=2))
            chance = random.Random(seed)
            shares = Shares([chance.randint(0, 1) for _ in range(table.book.many_open)])
            if is_dominating(table, shares):
                told += 1
                given = [[number for number in table.book.numbers(family) if shares.numbers()[number] == 1]
                         for family in table.book.family_names()]
                self.assertIs(is_stable(Assignment(table.book, [mine[0] if mine else None for mine in given])), True)
        self.assertGreater(told, 20)


def naive_sum(table, shares, row):
    return sum(table.entry(row, table.column_of(number)) * Fraction(*shares.share(number))
               for number in range(len(shares)))


def naive_rows(table, shares, number):
    """The rows that dominate a deal, by the words of [22]."""
    found = []
    for row in range(table.many_rows):
        others = [other for other in range(len(shares)) if table.takes_part(row, other) and shares.numbers()[other] > 0]
        mine = table.column_of(number)
        if table.takes_part(row, number) and naive_sum(table, shares, row) == table.bound(row)[0] and all(
                other == number or table.is_better(row, table.column_of(other), mine) for other in others):
            found.append(row)
    return found


def naive_dominating(table, shares):
    return (all(number >= 0 for number in shares.numbers())
            and all(naive_sum(table, shares, row) <= table.bound(row)[0] for row in range(table.many_rows))
            and all(naive_rows(table, shares, number) for number in range(len(shares))))


if __name__ == "__main__":
    unittest.main()
