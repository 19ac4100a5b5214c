"""nearseats.slack: spare seats, harmless exchanges and families that may leave [31]."""

import unittest

import plaintrees
from randombooks import random_book, random_seats
from samples import ODD_VALUES, pair_book

from nearseats.answers import Answer
from nearseats.assignments import Assignment
from nearseats.blocking import is_stable
from nearseats.books import Book
from nearseats.changes import cut, exchanged, renamed, with_deals
from nearseats.errors import InvalidSeats, NotStable, Overfull
from nearseats.judging import judge
from nearseats.placing import place
from nearseats.slack import harmless, leavers, spare

SIZES = {"rooms": 3, "families": 4, "size": 3, "deals": 3, "seats": 3}
ALL = (spare, harmless, leavers)


def stable_cases():
    """Pairs of a stable assignment and seats: those of the book, as None, or other ones."""
    for seed in range(40):
        book = random_book(seed, **SIZES)
        for seats in (None, random_seats(seed, book), place(book).seats()):
            for deals in plaintrees.all_lists(book):
                assignment = Assignment(book, deals)
                if is_stable(assignment, seats=seats):
                    yield assignment, seats


def seats_meant(assignment, seats):
    return assignment.book.seats() if seats is None else seats


def moved_deals(assignment, book):
    """The deals of an assignment by their numbers in a book that has these deals, too."""
    names = book.family_names()
    return [None if assignment[name] is None else book.number_of(name, assignment[name]) for name in names]


class PlainTest(unittest.TestCase):
    """Compares with plain trying."""

    def test_spare(self):
        for assignment, seats in stable_cases():
            told = [many - count for many, count in zip(seats_meant(assignment, seats), assignment.counts())]
            self.assertEqual(spare(assignment, seats=seats), told)
            self.assertGreaterEqual(min(told), 0)

    def test_harmless(self):
        harmful = 0
        for assignment, seats in stable_cases():
            book = assignment.book
            told = []
            for room in book.room_names():
                for place_at in range(len(book.order(room)) - 1):
                    changed = exchanged(book, room, place_at)
                    same = Assignment(changed, assignment.deals())
                    if is_stable(same, seats=seats_meant(assignment, seats)):
                        told.append((room, place_at))
                    else:
                        harmful += 1
            self.assertEqual(harmless(assignment, seats=seats), told)
        self.assertGreater(harmful, 30)

    def test_leavers(self):
        kept, numbers = 0, 0
        for assignment, seats in stable_cases():
            book = assignment.book
            told = []
            for family in book.family_names():
                changed = with_deals(book, family, [])
                deals = moved_deals(assignment.with_deal(family, None), changed)
                numbers += len(changed.deals(family)) + changed.many_open < book.many_open
                if is_stable(Assignment(changed, deals), seats=seats_meant(assignment, seats)):
                    told.append(family)
            kept += len(book) - len(told)
            self.assertEqual(leavers(assignment, seats=seats), told)
            for family in book.family_names():
                self.assertTrue(assignment[family] is not None or family in told)
        self.assertGreater(min(kept, numbers), 30)


class SmallTest(unittest.TestCase):
    def setUp(self):
        self.book = Book.read("book\nroom Oak 1\nroom Elm 2\nfamily c 1 : Oak | Elm\nfamily d 1 : Oak\nfamily e 2 : - Elm\n"
                              "order Oak : c.1 d.1 e.1\norder Elm : c.1 e.2 d.1\nend\n")
        self.given = Assignment(self.book, [0, None, 3])

    def test_all_three(self):
        self.assertEqual(spare(self.given), [0, 1])
        self.assertEqual(harmless(self.given), [("Oak", 1), ("Elm", 0), ("Elm", 1)])
        self.assertEqual(leavers(self.given), ["d", "e"])

    def test_with_seats(self):
        for seats in ([3, 1], (3, 1)):
            given = Assignment(self.book, [0, 2, 3])
            self.assertEqual(spare(given, seats=seats), [1, 0])
            self.assertEqual(harmless(given, seats=seats), [("Oak", 0), ("Oak", 1), ("Elm", 0), ("Elm", 1)])
            self.assertEqual(leavers(assignment=given, seats=seats), ["c", "d", "e"])

    def test_no_rooms_or_families(self):
        self.assertEqual([tell(Assignment.empty(Book.empty())) for tell in ALL], [[], [], []])
        book = Book.read("book\nroom Oak 3\nroom Elm 0\nfamily c 1 :\norder Oak : c.1\norder Elm :\nend\n")
        self.assertEqual([tell(Assignment.empty(book)) for tell in ALL], [[3, 0], [], ["c"]])

    def test_what_is_told_may_be_changed(self):
        seats = [1, 2]
        for tell in ALL:
            before = tell(self.given, seats=seats)
            tell(self.given, seats=seats).append(0)
            self.assertEqual(tell(self.given, seats=seats), before)
        self.assertEqual((self.given.deals(), seats), ([0, None, 3], [1, 2]))

    def test_wrong_seats(self):
        for value in (*[value for value in ODD_VALUES if value is not None], [1], "11", {"Oak": 1, "Elm": 1}, [1, -1]):
            at = {str((1, [2, {"a": None}])): 1, "[1, -1]": 1}.get(str(value), -1)
            for tell in ALL:
                with self.assertRaises(InvalidSeats) as caught:
                    tell(Assignment(pair_book(), [0, 1]), seats=value)
                self.assertEqual(caught.exception.at, at)

    def test_overfull(self):
        for deals, seats, at in (([0, 1], None, 0), ([0, 2], None, 1), ([0, None], [1, 0], 1), ([None, 2], [1, 0], 1)):
            for tell in ALL:
                with self.assertRaises(Overfull) as caught:
                    tell(Assignment(pair_book(), deals), seats=seats)
                self.assertEqual((caught.exception.at, caught.exception.code), (at, "Overfull"))

    def test_not_stable(self):
        for deals, seats, number in (([0, None], None, 2), ([None, None], None, 0), ([None, 2], [1, 2], 0),
                                     ([None, 2], None, 1)):
            for tell in ALL:
                with self.assertRaises(NotStable) as caught:
                    tell(Assignment(pair_book(), deals), seats=seats)
                self.assertEqual((caught.exception.number, caught.exception.code), (number, "NotStable"))


class FactTest(unittest.TestCase):
    """The facts of [31]."""

    def test_fewer_seats(self):
        for assignment, seats in stable_cases():
            for at, many in enumerate(spare(assignment, seats=seats)):
                fewer = list(seats_meant(assignment, seats))
                fewer[at] -= many
                self.assertIs(is_stable(assignment, seats=fewer), True)

    def test_lists_behind_the_deal(self):
        for assignment, seats in stable_cases():
            book = assignment.book
            for family in book.family_names():
                if assignment[family] is not None:
                    place_at = book.deals(family).index(assignment[family])
                    added = [deal for deal in [("R0",) * book.size(family), ("R1",) + ("-",) * (book.size(family) - 1)]
                             if deal not in book.deals(family)]
                    longer = book.deals(family)[:place_at + 1] + added + book.deals(family)[place_at + 1:]
                    for changed in (cut(book, family, place_at + 1), with_deals(book, family, longer)):
                        same = Assignment(changed, moved_deals(assignment, changed))
                        self.assertIs(is_stable(same, seats=seats_meant(assignment, seats)), True)

    def test_two_books_beside_each_other(self):
        pair = renamed(pair_book(), rooms={}, families={})
        for seed in range(10):
            book = random_book(seed, rooms=2, families=2, size=2, deals=2, seats=2)
            for deals in plaintrees.all_lists(book):
                for other in plaintrees.all_lists(pair):
                    moved = [None if number is None else number + book.many_open for number in other]
                    both = is_stable(Assignment(book + pair, deals + moved), seats=[*book.seats(), 2, 1])
                    parts = is_stable(Assignment(book, deals)), is_stable(Assignment(pair, other), seats=[2, 1])
                    self.assertIs(both, all(parts))

    def test_other_names(self):
        for seed in range(20):
            book = random_book(seed, **SIZES)
            text = place(book).text(book)
            changed = renamed(book, rooms={"R0": "R2", "R2": "R0"}, families={"f0": "f1", "f1": "f0"})
            words = {"R0": "R2", "R2": "R0", "f0": "f1", "f1": "f0"}
            lines = [" ".join(words.get(word, word) for word in line.split(" ")) for line in text.split("\n")]
            self.assertIsNone(judge(changed, Answer.read(changed, "\n".join(lines))))


if __name__ == "__main__":
    unittest.main()
