"""nearseats.assignments: assignments, residents and seats [10], and the at of [13]."""

import unittest

from nearseats.assignments import Assignment
from nearseats.books import Book
from nearseats.errors import InvalidDeals, InvalidSeats, UnknownDeal, UnknownFamily, UnknownRoom

from samples import ODD_VALUES, pair_book

TEXT = ("book\nroom Oak 2\nroom Elm 1\nroom Ash 0\n"
        "family c 3 : Oak - Oak | Elm Oak - | Ash - -\n"
        "family d 1 : Oak | Elm\n"
        "family e 1 : Ash\n"
        "family f 2 : Oak Oak | - Elm\n"
        "order Oak : f.2 c.3 d.1 c.2 c.1 f.1\n"
        "order Elm : d.1 f.2 c.1\n"
        "order Ash : e.1\nend\n")
# The open deals: c 0 and 1, d 2 and 3, f 4 and 5.

NO_LISTS = tuple(value for value in ODD_VALUES if not isinstance(value, (list, tuple)))


class Assignments(unittest.TestCase):
    def setUp(self):
        self.book = Book.read(TEXT)
        self.full = Assignment(self.book, [0, 2, None, 5])
        self.out = Assignment(self.book, [None] * 4)


class MadeTest(Assignments):
    def check(self, at, deals, book=None):
        with self.assertRaises(InvalidDeals) as caught:
            Assignment(book or self.book, deals)
        self.assertEqual(caught.exception.at, at, deals)

    def test_values_that_are_no_lists(self):
        for value in (*NO_LISTS, "0000", self.book, self.full):
            self.check(-1, value)

    def test_the_wrong_number_of_items(self):
        for deals in ([], (), [0], [0, 2, None], [0, 2, None, 5, None], [True, None, None], [None] * 9):
            self.check(-1, deals)
        self.check(-1, [None], Book.empty())
        self.check(-1, None, Book.empty())

    def test_the_first_wrong_item(self):
        for value in (True, False, -1, 6, 10 ** 9, "0", (), [], {}, ("Oak",), ["Oak"], self.book, self.full):
            self.check(0, [value, None, None, None])
            self.check(2, [0, 3, value, None])
            self.check(3, (None, None, None, value))
            self.check(1, [1, value, value, value])
        self.check(0, [2, 0, None, None])
        self.check(1, [None, 1, None, None])
        self.check(1, [None, 4, 4, 4])
        self.check(2, [None, None, 0, None])
        self.check(3, [None, None, None, 3])

    def test_what_is_kept(self):
        self.assertIs(self.full.book, self.book)
        self.assertEqual(self.full.deals(), [0, 2, None, 5])
        other = Assignment(deals=(0, 2, None, 5), book=self.book)
        self.assertTrue(other == self.full)
        self.assertEqual(other.deals(), [0, 2, None, 5])

    def test_empty(self):
        self.assertTrue(Assignment.empty(self.book) == self.out)
        self.assertEqual(Assignment.empty(book=self.book).deals(), [None] * 4)
        self.assertEqual(Assignment.empty(Book.empty()).deals(), [])

    def test_lists_that_are_changed_afterwards(self):
        deals = [0, 2, None, 5]
        made = Assignment(self.book, deals)
        deals[1] = None
        deals.append(3)
        seats = [0, 0, 0]
        made.over(seats=seats)
        self.assertEqual((made.deals(), seats), ([0, 2, None, 5], [0, 0, 0]))
        for told in (made.deals, lambda: made.residents("Oak"), made.counts, made.over):
            before = list(told())
            self.assertIsInstance(told(), list)
            told().append("more")
            told().clear()
            self.assertEqual(told(), before)
        self.assertTrue(made == self.full)


class RoomsTest(Assignments):
    def test_residents_in_the_order_of_the_room(self):
        self.assertEqual(self.full.residents("Oak"), ["c.3", "d.1", "c.1"])
        self.assertEqual(self.full.residents(room="Elm"), ["f.2"])
        self.assertEqual(self.full.residents("Ash"), [])
        self.assertEqual(Assignment(self.book, [1, None, None, 4]).residents("Oak"), ["f.2", "c.2", "f.1"])
        self.assertEqual(self.out.residents("Oak"), [])

    def test_residents_of_unknown_rooms(self):
        for value in (*ODD_VALUES, "c"):
            with self.assertRaises(UnknownRoom) as caught:
                self.full.residents(value)
            self.assertEqual(caught.exception.value, value)

    def test_counts(self):
        self.assertEqual(self.full.counts(), [3, 1, 0])
        self.assertEqual(Assignment(self.book, [1, 3, None, 5]).counts(), [1, 3, 0])
        self.assertEqual(self.out.counts(), [0, 0, 0])
        self.assertEqual(Assignment.empty(Book.empty()).counts(), [])

    def test_over_for_the_seats_of_the_book(self):
        self.assertEqual(self.full.over(), ["Oak"])
        self.assertEqual(self.full.over(seats=None), ["Oak"])
        self.assertEqual(Assignment(self.book, [0, 3, None, 5]).over(), ["Elm"])
        self.assertEqual(Assignment(self.book, [0, 3, None, None]).over(), [])
        self.assertEqual(Assignment(self.book, [1, 3, None, 4]).over(), ["Oak", "Elm"])
        self.assertEqual(self.out.over(), [])

    def test_over_for_other_seats(self):
        self.assertEqual(self.full.over(seats=[3, 1, 0]), [])
        self.assertEqual(self.full.over(seats=(2, 0, 9)), ["Oak", "Elm"])
        self.assertEqual(self.full.over(seats=[10 ** 9, 0, 0]), ["Elm"])
        self.assertEqual(self.out.over(seats=[0, 0, 0]), [])

    def check(self, at, seats):
        for assignment in (self.full, self.out):
            with self.assertRaises(InvalidSeats) as caught:
                assignment.over(seats=seats)
            self.assertEqual(caught.exception.at, at, seats)

    def test_wrong_seats(self):
        for value in NO_LISTS:
            if value is not None:
                self.check(-1, value)
        for seats in ([], (), [2], [2, 1], [2, 1, 0, 0], [True, 1], "210", {0: 2, 1: 1, 2: 0}, self.book):
            self.check(-1, seats)
        for value in (None, True, False, -1, "1", (), [], [1], {}, self.book):
            self.check(0, [value, 1, 0])
            self.check(1, [2, value, value])
            self.check(2, (2, 1, value))

    def test_seats_are_passed_by_name(self):
        with self.assertRaises(TypeError):
            self.full.over([2, 1, 0])


class FamiliesTest(Assignments):
    def test_the_deal_of_a_family(self):
        self.assertEqual([self.full[family] for family in "cdef"], [("Oak", "-", "Oak"), ("Oak",), None, ("-", "Elm")])
        self.assertEqual([self.out[family] for family in "cdef"], [None] * 4)

    def test_unknown_families(self):
        for value in (*ODD_VALUES, "Oak"):
            for call in (lambda: self.full[value], lambda: self.full.with_deal(value, None),
                         lambda: self.full.with_deal(value, "wrong")):
                with self.assertRaises(UnknownFamily) as caught:
                    call()
                self.assertEqual(caught.exception.value, value)

    def test_it_is_not_iterated_over(self):
        with self.assertRaises(TypeError):
            iter(self.full)

    def test_numbers_that_are_given(self):
        for number in range(-1, 8):
            self.assertIs(number in self.full, number in (0, 2, 5))
            self.assertIs(number in self.out, False)
        one = Assignment(self.book, [1, None, None, None])
        for value in (None, True, False, "0", "c", (0,), [0], {0: 0}, self.book, self.full, 10 ** 9):
            self.assertIs(value in self.full, False)
            self.assertIs(value in one, False)
        self.assertIs(1 in one, True)

    def test_with_deal(self):
        self.assertEqual(self.full.with_deal("c", 1).deals(), [1, 2, None, 5])
        self.assertEqual(self.full.with_deal(number=None, family="d").deals(), [0, None, None, 5])
        self.assertEqual(self.out.with_deal("f", 4).deals(), [None, None, None, 4])
        self.assertTrue(self.full.with_deal("c", 0) == self.full)
        self.assertTrue(self.full.with_deal("e", None) == self.full)
        self.assertEqual(self.full.deals(), [0, 2, None, 5])

    def test_with_deal_of_other_numbers(self):
        for value in (True, False, -1, 0, 1, 4, 5, 6, "2", (2,), [2], {2: 2}, ("Oak",), self.book, 10 ** 9):
            with self.assertRaises(UnknownDeal) as caught:
                self.full.with_deal("d", value)
            self.assertEqual(caught.exception.value, value)
        for value in (True, False, 0, ("Ash",)):
            with self.assertRaises(UnknownDeal):
                self.full.with_deal("e", value)
        with self.assertRaises(UnknownDeal):
            self.full.with_deal("c", True)


class ObjectTest(Assignments):
    def test_equality(self):
        self.assertTrue(self.full == Assignment(Book.read(TEXT), [0, 2, None, 5]))
        self.assertFalse(self.full != Assignment(Book.read(TEXT), [0, 2, None, 5]))
        self.assertFalse(self.full == Assignment(self.book, [0, 2, None, None]))
        self.assertFalse(self.full == Assignment(Book.read(TEXT.replace("room Oak 2", "room Oak 3")), [0, 2, None, 5]))
        for value in (None, [0, 2, None, 5], self.book, 3, "c"):
            self.assertFalse(self.full == value)
            self.assertTrue(self.full != value)

    def test_len_truth_and_repr(self):
        self.assertEqual((len(self.full), len(self.out)), (3, 0))
        self.assertIs(bool(self.full), True)
        self.assertIs(bool(self.out), True)
        self.assertEqual((repr(self.full), repr(self.out)), ("Assignment(3 of 4)", "Assignment(0 of 4)"))
        self.assertEqual(repr(Assignment(pair_book(), [0, 2])), "Assignment(2 of 2)")
        self.assertEqual(repr(Assignment.empty(Book.empty())), "Assignment(0 of 0)")


if __name__ == "__main__":
    unittest.main()
