"""nearseats.placing: answers that the judge takes, for every book [27]."""

import itertools
import unittest

import roundings
from randombooks import random_book
from samples import ODD_VALUES, pair_book

from nearseats.answers import Answer
from nearseats.assignments import Assignment
from nearseats.bases import Basis
from nearseats.blocking import is_stable
from nearseats.books import Book
from nearseats.errors import InvalidRow, InvalidSeats, InvalidShares, NotDominating, Overfull
from nearseats.judging import Fault, is_right, judge
from nearseats.placing import changed_seats, place, place_shares
from nearseats.rounding import Rounding
from nearseats.shares import Shares
from nearseats.tables import Table
from nearseats.walks import Walk, complete_sets, shares_of

SIZES = {"rooms": 3, "families": 4, "size": 3, "deals": 3, "seats": 3}


def stable_lists(book):
    lists = itertools.product(*[[*book.numbers(family), None] for family in book.family_names()])
    return [list(deals) for deals in lists if is_stable(Assignment(book, list(deals)))]


class PlaceTest(unittest.TestCase):
    def check(self, book, shares, answer):
        """Compares an answer with [27], for the shares that it was made from."""
        self.assertIsInstance(answer, Answer)
        self.assertIsNone(judge(book, answer))
        rounding = Rounding(book, shares)
        rounding.run()
        self.assertEqual((answer.seats(), answer.deals()), (rounding.found_seats(), rounding.final().deals()))
        reasons = {}
        assignment = Assignment(book, answer.deals())
        for number in range(book.many_open):
            if number not in assignment:
                told = ["family", *[f"room {room}" for room in book.room_names()]]
                right = [reason for reason in told if is_right(assignment, number, reason, seats=answer.seats())]
                reasons[number] = right[0]
        self.assertEqual(list(answer.reasons().items()), list(reasons.items()))
        changes = changed_seats(book, answer)
        self.assertTrue(all(abs(change) <= 2 * book.width - 2 for change in changes))
        self.assertGreaterEqual(sum(changes), 0)

    def test_with_and_without_first(self):
        changed = 0
        for seed in range(60):
            book = random_book(seed, **SIZES)
            self.check(book, shares_of(book), place(book))
            self.assertEqual(place(book), place_shares(book, shares_of(book)))
            for first in range(Table(book).many_rows):
                answer = place(book, first=first)
                self.check(book, shares_of(book, first=first), answer)
                changed += changed_seats(book, answer) != [0] * 3
        self.assertGreater(changed, 5)

    def test_first_matters(self):
        book = next(book for book in (random_book(seed, **SIZES) for seed in range(300))
                    if place(book, first=1) != place(book))
        walk = Walk(Table(book), first=1)
        walk.run()
        self.assertEqual(place(book, first=1), place_shares(book, walk.found_shares))

    def test_invalid_row(self):
        for value in (*[value for value in ODD_VALUES if value not in (0, 1) or isinstance(value, bool)], 4, -1):
            with self.assertRaises(InvalidRow) as caught:
                place(pair_book(), first=value)
            self.assertEqual(caught.exception.value, value)
        for book in (Book.empty(), Book.read("book\nroom Oak 2\nfamily c 1 : Oak\norder Oak :\nend\n")):
            for value in ODD_VALUES:
                self.assertEqual(place(book, first=value), Answer(book.seats(), [None] * len(book), {}))

    def test_several(self):
        for sizes, seeds in roundings.SEVERAL:
            for seed in seeds:
                book = random_book(seed, **sizes)
                self.check(book, shares_of(book), place(book))

    def test_shares_of_complete_sets(self):
        told = 0
        for seed in range(30):
            book = random_book(seed, rooms=2, families=2, size=3, deals=3, seats=3)
            for columns in complete_sets(Table(book)):
                shares = Basis(Table(book), columns).shares()
                self.check(book, shares, place_shares(shares=shares, book=book))
                told += 1
        self.assertGreater(told, 29)

    def test_mixtures_and_whole_shares(self):
        halves = Shares([1, 1, 1], below=2)
        for seed in (0, 40, 50, 57, 71, 1474):
            book = random_book(seed, **SIZES)
            mixed = roundings.mixtures(book)
            self.assertGreater(len(mixed), 0)
            for shares in (*mixed, *roundings.whole_shares(book)):
                self.check(book, shares, place_shares(book, shares))
                shares = roundings.joined(shares, halves)
                self.check(book + pair_book(), shares, place_shares(book + pair_book(), shares))

    def test_whole_shares_give_their_own_assignment(self):
        book = random_book(40, **SIZES)
        for deals in stable_lists(book):
            answer = place_shares(book, Shares([int(number in deals) for number in range(book.many_open)]))
            self.assertEqual((answer.seats(), answer.deals()), (book.seats(), deals))

    def test_errors_of_check_shares(self):
        for value in (*ODD_VALUES, Shares([1, 1]), Shares([])):
            with self.assertRaises(InvalidShares) as caught:
                place_shares(pair_book(), value)
            self.assertEqual(caught.exception.at, -1)
        for shares, error, at in ((Shares([2, 2, -1]), InvalidShares, 2), (Shares([1, 1, 1]), Overfull, 1),
                                  (Shares([0, 0, 0]), NotDominating, 0)):
            with self.assertRaises(error) as caught:
                place_shares(pair_book(), shares)
            self.assertEqual(getattr(caught.exception, "number" if error is NotDominating else "at"), at)

    def test_families_of_one_member(self):
        several = 0
        books = [random_book(seed, rooms=3, families=4, size=1, deals=3, seats=2) for seed in range(40)]
        for book in (Book.read(roundings.ROUND), *books, *[book + Book.read(roundings.ROUND) for book in books[:3]]):
            answer = place(book)
            self.assertEqual((answer.seats(), set(changed_seats(book, answer))), (book.seats(), {0}))
            lists = stable_lists(book)
            self.assertIn(answer.deals(), lists)
            several += len(lists) > 1
            for deals in lists:
                self.assertEqual([deal is None for deal in deals], [deal is None for deal in answer.deals()])
                self.assertEqual(Assignment(book, deals).counts(), Assignment(book, answer.deals()).counts())
        self.assertGreater(several, 3)

    def test_a_book_of_the_size_that_callers_may_have(self):
        book = random_book(3, rooms=12, families=30, size=9, deals=8, seats=40)
        self.check(book, shares_of(book), place(book))


class ChangedSeatsTest(unittest.TestCase):
    def test_changed_seats(self):
        for seats, told in (([2, 1], [1, 0]), ((0, 5), [-1, 4]), ([1, 1], [0, 0])):
            self.assertEqual(changed_seats(pair_book(), Answer(seats, None, "")), told)
        self.assertEqual(changed_seats(answer=Answer([], [], {}), book=Book.empty()), [])

    def test_wrong_seats(self):
        for seats, at in (([1], -1), ([1, 2, 3], -1), (None, -1), ({}, -1), ("11", -1), ([1, True], 1), ([-1, True], 0),
                          ([1, "1"], 1), ([None, None], 0), (([1], 1), 0)):
            with self.assertRaises(InvalidSeats) as caught:
                changed_seats(pair_book(), Answer(seats, [0, 1], {}))
            self.assertEqual(caught.exception.at, at)

    def test_any_value_as_an_answer(self):
        for value in (*ODD_VALUES, [1, 1], (1, 1), pair_book(), Fault(0, "over"), Shares([1, 1])):
            for book in (pair_book(), Book.empty()):
                with self.assertRaises(InvalidSeats) as caught:
                    changed_seats(book, value)
                self.assertEqual((caught.exception.at, caught.exception.code), (-1, "InvalidSeats"))

    def test_what_is_told_may_be_changed(self):
        book = pair_book()
        answer = place(book)
        before = (answer.seats(), answer.deals(), answer.reasons(), changed_seats(book, answer))
        for told in (answer.seats(), answer.deals(), changed_seats(book, answer)):
            told.append(0)
        answer.reasons().clear()
        self.assertEqual((answer.seats(), answer.deals(), answer.reasons(), changed_seats(book, answer)), before)
        self.assertEqual(place(book), answer)


if __name__ == "__main__":
    unittest.main()
