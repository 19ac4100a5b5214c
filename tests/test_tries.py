"""nearseats.tries: blocking deals taken one after the other [30]."""

import random
import unittest

from randombooks import random_assignment, random_book, random_seats
from samples import ODD_VALUES, pair_book

from nearseats.assignments import Assignment
from nearseats.blocking import blocking, chosen, is_stable
from nearseats.books import Book
from nearseats.errors import Finished, InvalidOrder, InvalidSeats, NothingLeft, Overfull, UnknownDeal
from nearseats.tries import Try, after

ORDERS = ("lowest", "highest", "turn")
SIZES = {"rooms": 3, "families": 5, "size": 3, "deals": 3, "seats": 2}
# Seeds of books in which some tries come round.
RINGS = (17, 69, 98, 101, 205, 209, 219, 263, 301, 357, 386)


def plain_step(assignment, number, seats):
    """The deals behind a step that takes this deal, by the words of [30]."""
    book = assignment.book
    deals = assignment.deals()
    deals[book.family_of(number)] = number
    moved = Assignment(book, deals)
    leaving = []
    for room in book.room_names():
        here = moved.residents(room)
        kept = chosen(book, room, here, seats=seats)
        leaving.extend(member.split(".")[0] for member in here if member not in kept)
    return [None if name in leaving else deal for name, deal in zip(book.family_names(), deals)]


def plain_choice(assignment, order, turn, seats):
    """The deal that a step takes, by the words of [30]; None if no deal blocks."""
    found = list(blocking(assignment, seats=seats))
    if not found:
        return None
    if order == "lowest":
        return min(found)
    if order == "highest":
        return max(found)
    many = len(assignment.book)
    families = [(turn + at) % many for at in range(many)]
    first = next(at for at in families if any(assignment.book.family_of(number) == at for number in found))
    return min(number for number in found if assignment.book.family_of(number) == first)


def plain_try(assignment, order, seats):
    """All states of a try, the deals that it takes, and its ring or None."""
    states, log = [(assignment.deals(), 0)], []
    while True:
        deals, turn = states[-1]
        counted = [(told, at if order == "turn" else 0) for told, at in states]
        if counted.index(counted[-1]) < len(log):
            return states, log, (counted.index(counted[-1]), len(log) - counted.index(counted[-1]))
        present = Assignment(assignment.book, deals)
        number = plain_choice(present, order, turn, seats)
        if number is None:
            return states, log, None
        behind = plain_step(present, number, seats)
        log.append(number)
        states.append((behind, (assignment.book.family_of(number) + 1) % len(assignment.book)))


def state(attempt):
    return (attempt.present.deals(), attempt.turn, attempt.many_steps, attempt.ended, attempt.rests, attempt.ring,
            attempt.log())


def beginnings(book, seats):
    """The empty assignment, and some others without a room that is over."""
    told = [Assignment.empty(book)] + [random_assignment(seed, book) for seed in range(6)]
    return [assignment for assignment in told if not assignment.over(seats=seats)]


class BeginningTest(unittest.TestCase):
    def test_pair(self):
        attempt = Try(Assignment.empty(pair_book()))
        self.assertEqual(state(attempt), ([None, None], 0, 0, False, False, None, []))
        self.assertEqual((attempt.present, repr(attempt)), (Assignment.empty(pair_book()), "Try(0 steps)"))

    def test_example_of_the_document(self):
        attempt = Try(Assignment.empty(pair_book()))
        self.assertEqual((attempt.run(), attempt.log(), attempt.ring, attempt.present.deals()),
                         (4, [0, 2, 1, 0], (1, 3), [0, None]))
        self.assertEqual((attempt.rests, attempt.ended, repr(attempt)), (False, True, "Try(4 steps)"))

    def test_wrong_seats(self):
        for value in (*[value for value in ODD_VALUES if value is not None], [1], [1, 1, 1], "11", {"Oak": 1, "Elm": 1}):
            at = {str((1, [2, {"a": None}])): 1}.get(str(value), -1)
            with self.assertRaises(InvalidSeats) as caught:
                Try(Assignment(pair_book(), [0, 1]), seats=value, order=None)
            self.assertEqual(caught.exception.at, at)
        for value, at in (([True, 1], 0), ([1, -1], 1), ([1, None], 1), (["1", "1"], 0)):
            with self.assertRaises(InvalidSeats) as caught:
                Try(Assignment(pair_book(), [0, 1]), seats=value)
            self.assertEqual(caught.exception.at, at)

    def test_wrong_order(self):
        for value in (*ODD_VALUES, "Lowest", "lowest ", "turns", ["turn"], ("turn",), {"turn": 1}):
            with self.assertRaises(InvalidOrder) as caught:
                Try(Assignment(pair_book(), [0, 1]), order=value)
            self.assertEqual((caught.exception.value, caught.exception.code), (value, "InvalidOrder"))

    def test_overfull(self):
        for deals, seats, at in (([0, 1], None, 0), ([0, 2], None, 1), ([0, None], [1, 0], 1), ([0, None], [0, 0], 0)):
            with self.assertRaises(Overfull) as caught:
                Try(Assignment(pair_book(), deals), seats=seats)
            self.assertEqual((caught.exception.at, caught.exception.code), (at, "Overfull"))
        for seats in ([2, 1], (2, 1)):
            self.assertIs(Try(Assignment(pair_book(), [0, 1]), seats=seats).rests, True)

    def test_books_without_deals(self):
        for text in ("book\nend\n", "book\nroom Oak 1\norder Oak :\nend\n", "book\nfamily c 1 :\nend\n"):
            for order in ORDERS:
                attempt = Try(Assignment.empty(Book.read(text)), order=order)
                self.assertEqual((attempt.ended, attempt.rests, attempt.ring, attempt.turn), (True, True, None, 0))
                self.assertEqual(attempt.run(), 0)
                self.assertRaises(Finished, attempt.step)

    def test_seats_are_copied(self):
        seats = [2, 1]
        attempt = Try(assignment=Assignment.empty(pair_book()), seats=seats)
        seats[0] = 0
        seats.append(1)
        self.assertEqual((attempt.run(), attempt.present.deals(), attempt.rests), (2, [0, 1], True))
        attempt.undo()
        self.assertEqual((attempt.twin().run(), attempt.run(), attempt.present.deals()), (1, 1, [0, 1]))


class StepTest(unittest.TestCase):
    def check(self, assignment, order, seats):
        """A try, compared with the words of [30] at each step; its ring."""
        states, log, ring = plain_try(assignment, order, seats)
        attempt = Try(assignment, order=order, seats=seats)
        for at, (deals, turn) in enumerate(states):
            last = at == len(log)
            rests = last and ring is None
            self.assertEqual(state(attempt), (deals, turn, at, last, rests, ring if last else None, log[:at]))
            self.assertEqual(attempt.present.over(seats=seats), [])
            if not last:
                self.assertEqual(attempt.step(), log[at])
                self.assertIn(log[at], attempt.present)
        self.assertRaises(Finished, attempt.step)
        self.assertEqual((attempt.run(), attempt.many_steps), (0, len(log)))
        if ring is None:
            self.assertIs(is_stable(attempt.present, seats=seats), True)
        self.check_back(assignment, attempt, states, order, seats)
        return ring

    def check_back(self, assignment, attempt, states, order, seats):
        log, ended = attempt.log(), state(attempt)
        for at in range(len(log) - 1, -1, -1):
            self.assertIsNone(attempt.undo())
            self.assertEqual(state(attempt), (*states[at], at, False, False, None, log[:at]))
            twin = attempt.twin()
            self.assertEqual((twin.run(), state(twin)), (len(log) - at, ended))
        self.assertRaises(NothingLeft, attempt.undo)
        self.assertEqual(state(attempt), state(Try(assignment, order=order, seats=seats)))
        self.assertEqual((attempt.run(), state(attempt)), (len(log), ended))

    def test_small_books(self):
        for seed in range(60):
            book = random_book(seed, **SIZES)
            for seats in (None, random_seats(seed, book)):
                for assignment in beginnings(book, seats):
                    for order in ORDERS:
                        self.check(assignment, order, seats)

    def test_rings(self):
        told = {order: 0 for order in ORDERS}
        for seed in RINGS:
            book = random_book(seed, **SIZES)
            for assignment in beginnings(book, None):
                for order in ORDERS:
                    told[order] += self.check(assignment, order, None) is not None
        self.assertGreater(min(told.values()), 5)

    def test_the_turn_counts_for_turn_alone(self):
        # The assignment is on the ring, but at first the turn is 0.
        for order, ring in (("lowest", (0, 3)), ("highest", (0, 3)), ("turn", (1, 3))):
            self.assertEqual(self.check(Assignment(pair_book(), [0, None]), order, None), ring)

    def test_one_member_each(self):
        many = 0
        for seed in range(80):
            book = random_book(seed, rooms=3, families=6, size=1, deals=3, seats=2)
            for order in ("lowest", "turn"):
                attempt = Try(Assignment.empty(book), order=order)
                many = max(many, attempt.run())
                self.assertEqual((attempt.rests, attempt.ring), (True, None))
                self.assertIs(is_stable(attempt.present), True)
        self.assertGreater(many, 6)

    def test_most(self):
        for most, told in ((0, 0), (1, 1), (3, 3), (4, 4), (5, 4), (10 ** 9, 4), (None, 4)):
            attempt = Try(Assignment.empty(pair_book()))
            self.assertEqual((attempt.run(most=most), attempt.many_steps), (told, told))
        attempt = Try(Assignment.empty(pair_book()))
        self.assertEqual([attempt.run(most=1), attempt.run(most=2), attempt.run(most=0), attempt.run(most=9)],
                         [1, 2, 0, 1])

    def test_told_log_may_be_changed(self):
        attempt = Try(Assignment.empty(pair_book()))
        attempt.run()
        attempt.log().clear()
        attempt.present.deals().clear()
        self.assertEqual((attempt.log(), attempt.present.deals()), ([0, 2, 1, 0], [0, None]))


class BackTest(unittest.TestCase):
    def test_by_turns(self):
        chance = random.Random(5)
        for seed in RINGS[:6]:
            book = random_book(seed, **SIZES)
            for order in ORDERS:
                states, log, ring = plain_try(Assignment.empty(book), order, None)
                attempt, at = Try(Assignment.empty(book), order=order), 0
                for _ in range(60):
                    if chance.random() < 0.5 and at < len(log):
                        self.assertEqual(attempt.step(), log[at])
                        at += 1
                    elif at > 0:
                        attempt.undo()
                        at -= 1
                    if chance.random() < 0.3:
                        elder, attempt = attempt, attempt.twin()
                        elder.run()
                    last = at == len(log)
                    rests = last and ring is None
                    self.assertEqual(state(attempt),
                                     (*states[at], at, last, rests, ring if last else None, log[:at]))

    def test_twins_go_their_own_ways(self):
        attempt = Try(Assignment.empty(pair_book()), order="turn")
        attempt.run(most=2)
        before = state(attempt)
        twin = attempt.twin()
        twin.run()
        self.assertEqual((state(attempt), twin.ended), (before, True))
        attempt.undo()
        attempt.undo()
        self.assertEqual((twin.ended, twin.many_steps), (True, twin.many_steps))
        for _ in range(twin.many_steps):
            twin.undo()
        self.assertRaises(NothingLeft, twin.undo)
        self.assertEqual(state(twin), state(attempt))

    def test_nothing_left(self):
        attempt = Try(Assignment(pair_book(), [0, None]))
        with self.assertRaises(NothingLeft) as caught:
            attempt.undo()
        self.assertEqual(caught.exception.code, "NothingLeft")
        attempt.step()
        attempt.undo()
        self.assertRaises(NothingLeft, attempt.undo)


class AfterTest(unittest.TestCase):
    def test_beside_the_words(self):
        over = 0
        for seed in range(60):
            book = random_book(seed, **SIZES)
            for chance in range(4):
                assignment = random_assignment(chance, book)
                for seats in (None, random_seats(chance, book)):
                    for number in blocking(assignment, seats=seats):
                        told = after(assignment, number, seats=seats)
                        self.assertEqual(told, Assignment(book, plain_step(assignment, number, seats)))
                        self.assertEqual((told.over(seats=seats), number in told), ([], True))
                        over += assignment.over(seats=seats) != []
        self.assertGreater(over, 20)

    def test_a_room_that_is_over(self):
        book = Book([("Oak", 1), ("Elm", 1)], [("c", 1, [("Oak",)]), ("d", 1, [("Oak",)]), ("e", 1, [("Elm",)])],
                    [["d.1", "c.1"], ["e.1"]])
        self.assertEqual(after(number=2, assignment=Assignment(book, [0, 1, None])), Assignment(book, [None, 1, 2]))
        self.assertEqual(after(Assignment(book, [0, 1, None]), 2, seats=[0, 1]), Assignment(book, [None, None, 2]))

    def test_unknown_deal(self):
        book = pair_book()
        for deals in ([0, None], [None, 1], [None, None]):
            assignment = Assignment(book, deals)
            for value in (*ODD_VALUES, 2, 3, 10 ** 30, [0], "0"):
                if value in list(blocking(assignment)) and not isinstance(value, bool):
                    self.assertEqual(after(assignment, value).deals(), plain_step(assignment, value, None))
                else:
                    with self.assertRaises(UnknownDeal) as caught:
                        after(assignment, value)
                    self.assertEqual((caught.exception.value, caught.exception.code), (value, "UnknownDeal"))

    def test_seats_ahead_of_the_deal(self):
        for seats, at in (([1], -1), ([1, True], 1), ("11", -1), ({}, -1), (7, -1)):
            with self.assertRaises(InvalidSeats) as caught:
                after(Assignment.empty(pair_book()), None, seats=seats)
            self.assertEqual(caught.exception.at, at)

    def test_nothing_is_changed(self):
        assignment, seats = Assignment(pair_book(), [None, 1]), [1, 1]
        after(assignment, 0, seats=seats)
        self.assertEqual((assignment.deals(), seats), ([None, 1], [1, 1]))


if __name__ == "__main__":
    unittest.main()
