"""nearseats.judging: the judge and right reasons [12] [13]."""

import unittest

from nearseats.answers import Answer, reasons_for
from nearseats.assignments import Assignment
from nearseats.blocking import is_stable
from nearseats.books import Book
from nearseats.errors import InvalidSeats, UnknownDeal
from nearseats.judging import Fault, is_right, judge

from randombooks import random_assignment, random_book, random_seats
from samples import ODD_VALUES, pair_book

TEXT = ("book\nroom Oak 2\nroom Elm 1\nroom Ash 0\n"
        "family c 2 : Oak Elm | Oak Oak | - Elm\nfamily d 1 : Elm | Oak\nfamily e 1 : Oak\nfamily f 1 : Ash\n"
        "order Oak : d.1 c.1 e.1 c.2\norder Elm : c.2 d.1\norder Ash : f.1\nend\n")
# The open deals: c 0, 1 and 2, d 3 and 4, e 5.

NO_LISTS = tuple(value for value in ODD_VALUES if not isinstance(value, (list, tuple)))


class Judging(unittest.TestCase):
    def setUp(self):
        self.book = Book.read(TEXT)
        self.wrong = (*NO_LISTS, "210", self.book, Assignment.empty(self.book), Answer([2, 1, 0], [], {}))

    def check(self, at, why, seats, deals, reasons, book=None):
        fault = judge(book or self.book, Answer(seats, deals, reasons))
        self.assertEqual((fault.at, fault.why), (at, why), (seats, deals, reasons))
        self.assertIsInstance(fault, Fault)


class TakenTest(Judging):
    def test_an_answer_that_is_taken(self):
        reasons = {1: "family", 2: "family", 3: "room Elm"}
        self.assertIsNone(judge(self.book, Answer([3, 1, 0], [0, 4, 5, None], reasons)))
        self.assertIsNone(judge(answer=Answer((3, 1, 0), (0, 4, 5, None), reasons), book=self.book))
        self.assertIsNone(judge(self.book, Answer([2, 1, 0], [0, 4, None, None], {**reasons, 5: "room Oak"})))

    def test_nothing_to_judge(self):
        self.assertIsNone(judge(Book.empty(), Answer([], [], {})))
        self.assertIsNone(judge(Book.empty(), Answer((), (), None)))
        self.check(-1, "seats", [1], [], {}, Book.empty())
        self.check(-1, "deals", [], [None], {}, Book.empty())

    def test_other_reasons_count_for_nothing(self):
        reasons = {1: "family", 2: "family", 3: "room Elm", 0: "wrong", 4: [], -1: 5, 99: None, "1": "x", (2,): 0,
                   None: 1}
        self.assertIsNone(judge(self.book, Answer([3, 1, 0], [0, 4, 5, None], reasons)))

    def test_either_reason_of_two_right_ones(self):
        for reason in ("family", "room Oak"):
            self.assertIsNone(judge(self.book, Answer([3, 1, 0], [0, 4, 5, None],
                                                      {1: reason, 2: "family", 3: "room Elm"})))

    def test_a_room_with_no_seats_is_full_without_residents(self):
        book = Book.read("book\nroom Oak 1\nfamily c 1 : Oak\norder Oak : c.1\nend\n")
        self.assertIsNone(judge(book, Answer([0], [None], {0: "room Oak"})))
        self.check(0, "full", [1], [None], {0: "room Oak"}, book)
        self.assertIs(is_right(Assignment(book, [None]), 0, "room Oak", seats=[0]), True)
        self.assertIs(is_right(Assignment(book, [None]), 0, "room Oak"), False)

    def test_the_example(self):
        book = pair_book()
        found = [judge(book, Answer([1, 1], [0, 1], {})), judge(book, Answer([2, 1], [0, 1], {})),
                 judge(book, Answer([1, 1], [0, None], {1: "room Oak", 2: "room Elm"})),
                 judge(book, Answer([1, 1], [None, 1], {0: "room Elm", 2: "family"}))]
        self.assertEqual([(fault.at, fault.why) for fault in found],
                         [(0, "over"), (2, "missing"), (2, "better"), (0, "full")])

    def test_taken_answers_are_stable(self):
        taken = 0
        for seed in range(300):
            book = random_book(seed, rooms=2, families=3, size=2)
            assignment = random_assignment(seed, book)
            seats = assignment.counts() if seed % 2 else random_seats(seed, book)
            answer = Answer(seats, assignment.deals(), reasons_for(assignment, seats=seats))
            if judge(book, answer) is None:
                taken += 1
                self.assertIs(is_stable(assignment, seats=seats), True)
        self.assertGreater(taken, 20)


class SeatsTest(Judging):
    def test_values_that_are_no_lists(self):
        for value in self.wrong:
            self.check(-1, "seats", value, [None] * 4, {})
        self.check(-1, "seats", {0: 2, 1: 1, 2: 0}, [None] * 4, {})

    def test_the_wrong_number_of_items(self):
        for seats in ([], (), [2], [2, 1], [2, 1, 0, 0], [True, None]):
            self.check(-1, "seats", seats, [None] * 4, {})

    def test_the_first_wrong_item(self):
        for value in (None, True, False, -1, "1", (1,), [1], {}, self.book):
            self.check(0, "seats", [value, value, 0], [None] * 4, {})
            self.check(1, "seats", (2, value, value), [None] * 4, {})
            self.check(2, "seats", [0, 0, value], [None] * 4, {})

    def test_they_come_ahead_of_the_deals(self):
        self.check(2, "seats", [2, 1, None], None, None)
        self.check(-1, "seats", None, None, None)


class DealsTest(Judging):
    def test_values_that_are_no_lists(self):
        for value in self.wrong:
            self.check(-1, "deals", [2, 1, 0], value, {})

    def test_the_wrong_number_of_items(self):
        for deals in ([], (), [0], [0, 3, 5], [0, 3, 5, None, None], [True, 99]):
            self.check(-1, "deals", [2, 1, 0], deals, {})

    def test_the_first_wrong_item(self):
        for value in (True, False, -1, 6, 10 ** 9, "0", (), [], {}, ("Oak",), self.book):
            self.check(0, "deals", [2, 1, 0], [value, value, None, None], {})
            self.check(1, "deals", (9, 9, 9), (0, value, None, value), {})
            self.check(3, "deals", [2, 1, 0], [None, None, None, value], {})
        self.check(0, "deals", [2, 1, 0], [3, 0, None, None], {})
        self.check(1, "deals", [2, 1, 0], [0, 0, None, None], {})
        self.check(3, "deals", [2, 1, 0], [0, 4, 5, 5], {})

    def test_they_come_ahead_of_a_room_that_is_over(self):
        self.check(3, "deals", [0, 0, 0], [0, 4, 5, 0], {})


class OverTest(Judging):
    def test_the_first_room(self):
        self.check(0, "over", [2, 1, 0], [1, 4, 5, None], {})
        self.check(1, "over", [2, 0, 0], [0, 4, None, None], {})
        self.check(1, "over", [9, 1, 0], [0, 3, None, None], {})
        self.check(0, "over", [0, 0, 0], [0, 4, None, None], {})

    def test_it_comes_ahead_of_the_reasons(self):
        self.check(1, "over", [2, 0, 0], [2, None, None, None], {0: [], 1: "wrong"})

    def test_as_many_residents_as_seats(self):
        self.check(1, "missing", [3, 1, 0], [0, 4, 5, None], {})


class ReasonTest(Judging):
    def test_missing(self):
        for reasons in ({}, {2: "family", 3: "room Elm"}, {1: None, 2: "family"}, {"1": "family"}, {(1,): "family"}):
            self.check(1, "missing", [3, 1, 0], [0, 4, 5, None], reasons)
        self.check(3, "missing", [3, 1, 0], [0, 4, 5, None], {1: "family", 2: "family"})

    def test_reasons_that_are_no_dict(self):
        for value in (None, True, 3, "family", [None, "family", "family", "room Elm"], ("family",) * 6, (), self.book):
            self.check(1, "missing", [3, 1, 0], [0, 4, 5, None], value)

    def test_strings_that_are_no_reasons(self):
        for value in ("", "Family", " family", "family ", "room", "room ", "room Elm ", "room  Elm", "Elm", "room elm",
                      "room c", "room Pine", "room Oak Elm", "room Ash", "room Oak", "room -", "family\n", "rooms Elm",
                      "Room Elm", "room:Elm", "     Elm", " room Elm"):
            self.check(3, "reason", [3, 1, 0], [0, 4, 5, None], {1: "family", 2: "family", 3: value})

    def test_values_that_are_no_strings(self):
        for value in (True, False, 0, 3, (), ("family",), [], ["family"], {}, {"family": 1}, {0: "room Elm"},
                      self.book):
            self.check(1, "reason", [3, 1, 0], [0, 4, 5, None], {1: value, 2: "family", 3: "room Elm"})

    def test_family(self):
        self.check(3, "family", [3, 1, 0], [0, 4, 5, None], {1: "family", 2: "family", 3: "family"})
        self.check(0, "family", [2, 1, 0], [None, 3, 5, None], {0: "family"})
        self.check(0, "family", [3, 1, 0], [2, 4, 5, None], {0: "family"})
        # A better deal of another family is none.
        reasons = {1: "family", 2: "family", 3: "room Elm", 5: "family"}
        self.check(5, "family", [2, 1, 0], [0, 4, None, None], reasons)

    def test_full(self):
        self.check(0, "full", [2, 1, 0], [None, 4, 5, None], {0: "room Elm"})
        self.check(0, "full", [3, 0, 0], [None, 4, 5, None], {0: "room Oak"})
        self.check(0, "full", [2, 2, 0], [2, None, None, None], {0: "room Oak"})
        reasons = {1: "family", 2: "family", 3: "room Elm", 5: "room Oak"}
        self.check(5, "full", [3, 1, 0], [0, 4, None, None], reasons)

    def test_better(self):
        # In Oak e.1 stands between c.1 and c.2, who is the last one of the deal 1.
        self.check(0, "better", [2, 1, 0], [None, 4, 5, None], {0: "room Oak"})
        self.check(0, "better", [2, 1, 0], [None, 3, 5, None], {0: "room Elm"})
        self.check(2, "missing", [2, 0, 0], [None, 4, 5, None], {0: "room Elm", 1: "room Oak"})

    def test_the_member_itself_does_not_come_ahead(self):
        self.check(0, "better", [1, 1, 0], [2, None, None, None], {0: "room Elm"})

    def test_the_deals_by_their_numbers(self):
        self.check(1, "reason", [3, 1, 0], [0, 4, 5, None], {1: "x"})
        self.check(1, "missing", [3, 1, 0], [0, 4, 5, None], {2: "x", 3: "family"})
        self.check(2, "full", [3, 2, 0], [0, 4, 5, None], {3: "x", 2: "room Elm", 1: "family"})
        self.check(0, "family", [2, 1, 0], [None, 4, 5, None], {0: "family", 2: "room Elm"})


class RightTest(Judging):
    def setUp(self):
        Judging.setUp(self)
        self.assignment = Assignment(self.book, [0, 4, None, None])

    def right(self, number, reason, seats=None):
        return is_right(self.assignment, number, reason, seats=seats)

    def test_right_and_wrong_reasons(self):
        self.assertEqual([self.right(number, "family") for number in (1, 2, 3, 5)], [True, True, False, False])
        self.assertEqual([self.right(number, "room Oak") for number in (1, 2, 3, 5)], [True, False, False, True])
        self.assertEqual([self.right(number, "room Elm") for number in (1, 2, 3, 5)], [False, False, True, False])
        self.assertIs(is_right(reason="family", number=1, assignment=self.assignment), True)

    def test_other_seats(self):
        self.assertIs(self.right(5, "room Oak", [3, 1, 0]), False)
        self.assertIs(self.right(5, "room Oak", (2, 0, 0)), True)
        self.assertIs(self.right(1, "family", [0, 0, 0]), True)
        with self.assertRaises(TypeError):
            is_right(self.assignment, 5, "room Oak", [2, 1, 0])

    def test_any_values(self):
        for value in (*ODD_VALUES, "room", "room ", "room Pine", "family ", ("family",), ["room Oak"], {"family": 1},
                      self.book, self.assignment, Fault(1, "family")):
            for number in (1, 2, 3, 5):
                self.assertIs(self.right(number, value), False)

    def test_numbers_of_no_missed_deals_come_ahead_of_wrong_seats(self):
        for value in (None, True, False, -1, 0, 4, 6, 10 ** 9, "1", "family", (1,), [], [1], {}, {1: 1}, self.book):
            for seats in (None, [], [2, 1, 0], "x"):
                with self.assertRaises(UnknownDeal) as caught:
                    self.right(value, "family", seats)
                self.assertEqual(caught.exception.value, value)

    def test_wrong_seats(self):
        for value in self.wrong:
            if value is not None:
                self.check_seats(-1, value)
        self.check_seats(-1, [2, 1])
        for value in (None, True, False, -1, "1", [1]):
            self.check_seats(0, [value, 1, value])
            self.check_seats(2, (2, 1, value))

    def check_seats(self, at, seats):
        for reason in ("family", "room Oak", None, 3):
            with self.assertRaises(InvalidSeats) as caught:
                self.right(1, reason, seats)
            self.assertEqual(caught.exception.at, at)


class FaultTest(unittest.TestCase):
    def test_what_it_tells(self):
        fault = Fault(why="full", at=3)
        self.assertEqual((fault.at, fault.why, repr(fault)), (3, "full", "Fault(3, full)"))
        self.assertEqual(repr(Fault(-1, "seats")), "Fault(-1, seats)")

    def test_equality(self):
        self.assertTrue(Fault(3, "full") == Fault(3, "full"))
        self.assertFalse(Fault(3, "full") != Fault(3, "full"))
        for other in (Fault(2, "full"), Fault(3, "over"), (3, "full"), None, 3, "full", "Fault(3, full)"):
            self.assertFalse(Fault(3, "full") == other)
            self.assertTrue(Fault(3, "full") != other)


if __name__ == "__main__":
    unittest.main()
