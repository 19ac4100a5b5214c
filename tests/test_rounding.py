"""nearseats.rounding: from dominating shares to an assignment [25] [26]."""

import unittest

import roundings
from randombooks import random_book
from samples import ODD_VALUES, pair_book

from nearseats.answers import Answer, reasons_for
from nearseats.assignments import Assignment
from nearseats.blocking import is_stable
from nearseats.books import Book
from nearseats.changes import renamed
from nearseats.errors import (Finished, InvalidShares, NotDominating, NotEnded, NotReleasable, NothingLeft, Overfull)
from nearseats.judging import judge
from nearseats.regions import Region
from nearseats.rounding import Rounding
from nearseats.shares import Shares
from nearseats.tables import Table
from nearseats.walks import shares_of

HALVES = Shares([1, 1, 1], below=2)
ZERO = "book\nroom Oak 0\nroom Elm 1\nfamily c 1 : Oak | Elm\norder Oak : c.1\norder Elm : c.1\nend\n"


def pair_rounding():
    return Rounding(pair_book(), HALVES)


def several_books():
    """Books of several families of several members, whose rounding releases rooms."""
    for sizes, seeds in roundings.SEVERAL:
        for seed in seeds:
            yield random_book(seed, **sizes)


def state(rounding):
    return (rounding.present, rounding.settled(), rounding.released(), rounding.next_kind, rounding.ended,
            rounding.unsettled(), rounding.full(), rounding.releasable(), rounding.weight_list(),
            rounding.region().rows())


class BeginningTest(unittest.TestCase):
    def test_errors_of_check_shares_in_their_order(self):
        book = pair_book()
        for value in (*ODD_VALUES, [1, 1, 1], Shares([1, 1]), Shares([1, -1, 1, 0]), Table(book)):
            with self.assertRaises(InvalidShares) as caught:
                Rounding(book, value)
            self.assertEqual(caught.exception.at, -1)
        with self.assertRaises(InvalidShares) as caught:
            Rounding(book, Shares([5, -1, -1]))
        self.assertEqual(caught.exception.at, 1)
        with self.assertRaises(Overfull) as caught:
            Rounding(book, Shares([0, 1, 1]))
        self.assertEqual(caught.exception.at, 1)
        with self.assertRaises(NotDominating) as caught:
            Rounding(book, Shares([0, 1, 0]))
        self.assertEqual(caught.exception.number, 0)

    def test_pair(self):
        rounding = Rounding(shares=HALVES, book=pair_book())
        self.assertEqual((rounding.book, rounding.present), (pair_book(), HALVES))
        self.assertEqual((rounding.settled(), rounding.unsettled(), rounding.released()), ({}, [0, 1, 2], []))
        self.assertEqual((rounding.full(), rounding.weight_list(), rounding.releasable()), ([1, 2, 3], [2, 1, 1], []))
        self.assertEqual((rounding.next_kind, rounding.ended), ("vertex", False))
        self.assertIsInstance(rounding.region(), Region)
        self.assertEqual(rounding.region().rows(), [((1, 0, 0), 1, False), ((0, 1, 1), 1, True), ((1, 1, 0), 1, True),
                                                    ((1, 0, 1), 1, True)])

    def test_deals_with_the_share_0(self):
        rounding = Rounding(Book.read(ZERO), Shares([1]))
        self.assertEqual((rounding.settled(), rounding.unsettled()), ({}, [0]))
        book = random_book(284, rooms=3, families=5, size=3, deals=3, seats=3)
        shares = shares_of(book)
        rounding = Rounding(book, shares)
        zeros = [number for number, share in enumerate(shares.numbers()) if share == 0]
        self.assertGreater(len(zeros), 1)
        self.assertEqual(list(rounding.settled().items()), [(number, 0) for number in zeros])
        self.assertEqual(rounding.unsettled(), [number for number in range(book.many_open) if number not in zeros])

    def test_told_things_may_be_changed(self):
        rounding = pair_rounding()
        rounding.step()
        before = state(rounding)
        rounding.settled()[0] = 1
        for told in (rounding.unsettled(), rounding.released(), rounding.full(), rounding.weight_list(),
                     rounding.releasable(), rounding.region().rows()):
            told.append("Oak")
        self.assertEqual(state(rounding), before)

    def test_repr(self):
        rounding = pair_rounding()
        told = [repr(rounding)]
        rounding.run()
        self.assertEqual([*told, repr(rounding)], ["Rounding(3 unsettled)", "Rounding(0 unsettled)"])
        self.assertEqual(repr(Rounding(Book.read(ZERO), Shares([1]))), "Rounding(1 unsettled)")


class StepTest(unittest.TestCase):
    def test_example_of_the_document(self):
        book = pair_book()
        rounding = Rounding(book, shares_of(book))
        self.assertEqual((rounding.step(), rounding.releasable()), ("vertex", ["Oak", "Elm"]))
        self.assertIsNone(rounding.release("Oak"))
        self.assertEqual((rounding.run(), rounding.found_seats(), rounding.final().deals()), (1, [2, 1], [0, 1]))
        reasons = reasons_for(rounding.final(), seats=rounding.found_seats())
        self.assertEqual(reasons, {2: "family"})
        self.assertIsNone(judge(book, Answer([2, 1], [0, 1], reasons)))

    def test_each_room_that_can_be_released(self):
        rounding = pair_rounding()
        rounding.step()
        for room, seats, deals in (("Oak", [2, 1], [0, 1]), ("Elm", [1, 2], [0, 2])):
            twin = rounding.twin()
            twin.release(room=room)
            self.assertEqual((twin.released(), twin.next_kind, twin.releasable()), ([room], "vertex", []))
            self.assertEqual(twin.present, HALVES)
            self.assertEqual((twin.step(), twin.ended, twin.next_kind), ("vertex", True, None))
            self.assertEqual((twin.found_seats(), twin.final()), (seats, Assignment(pair_book(), deals)))
            self.assertEqual((twin.unsettled(), twin.released()), ([], [room]))
            self.assertEqual(twin.settled(), {number: int(number in deals) for number in range(3)})
            self.assertEqual(twin.present, Shares([int(number in deals) for number in range(3)]))

    def test_settled_ascends(self):
        for book in several_books():
            for ended in roundings.all_ends(Rounding(book, shares_of(book)), lambda _: None):
                self.assertEqual(list(ended.settled()), list(range(book.many_open)))

    def test_step_releases_a_room(self):
        rounding = pair_rounding()
        rounding.step()
        room = rounding.step()
        self.assertIn(room, ["Oak", "Elm"])
        self.assertEqual((rounding.released(), rounding.full(), rounding.weight_list()), ([room], [1, 2, 3], [2, 1, 1]))
        self.assertEqual(len(rounding.region()), 3)

    def test_all_deals_are_settled_already(self):
        empty = ("book\nroom Oak 2\nfamily c 1 : Oak\norder Oak :\nend\n", [2])
        for text, seats in (empty, ("book\nend\n", []), ("book\nroom Oak 0\norder Oak :\nend\n", [0])):
            book = Book.read(text)
            rounding = Rounding(book, Shares([]))
            self.assertEqual((rounding.unsettled(), rounding.next_kind, rounding.ended), ([], "vertex", False))
            self.assertRaises(NotEnded, rounding.final)
            self.assertEqual((rounding.step(), rounding.ended, rounding.next_kind), ("vertex", True, None))
            self.assertEqual((rounding.final(), rounding.found_seats()), (Assignment.empty(book), seats))
            self.assertRaises(Finished, rounding.step)

    def test_rooms_without_seats(self):
        rounding = Rounding(Book.read(ZERO), Shares([1]))
        self.assertEqual((rounding.run(), rounding.found_seats(), rounding.final().deals()), (1, [0, 1], [0]))

    def test_not_releasable(self):
        rounding = pair_rounding()
        for _ in range(4):
            told = [value for value in (*ODD_VALUES, "Oak", "Elm", "c", "vertex", "release", ("room", "Oak"), 2,
                                        rounding) if value not in rounding.releasable()]
            self.assertGreater(len(told), len(ODD_VALUES))
            before = state(rounding)
            for value in told:
                with self.assertRaises(NotReleasable) as caught:
                    rounding.release(value)
                self.assertEqual((caught.exception.room, caught.exception.code), (value, "NotReleasable"))
            self.assertEqual(state(rounding), before)
            if not rounding.ended:
                rounding.step()
        self.assertIs(rounding.ended, True)

    def test_not_ended_and_finished(self):
        rounding = pair_rounding()
        while not rounding.ended:
            self.assertRaises(NotEnded, rounding.final)
            self.assertRaises(NotEnded, rounding.found_seats)
            rounding.step()
        before = state(rounding)
        self.assertRaises(Finished, rounding.step)
        self.assertEqual((rounding.run(), state(rounding)), (0, before))


class BackTest(unittest.TestCase):
    def test_nothing_left(self):
        rounding = pair_rounding()
        self.assertRaises(NothingLeft, rounding.undo)
        rounding.step()
        self.assertIsNone(rounding.undo())
        self.assertRaises(NothingLeft, rounding.undo)
        self.assertEqual(state(rounding), state(pair_rounding()))

    def test_from_the_end_back_to_the_beginning(self):
        for book in several_books():
            for ended in roundings.all_ends(Rounding(book, shares_of(book)), lambda _: None):
                self.check_back(ended)

    def check_back(self, ended):
        twin = ended.twin()
        states = [state(twin)]
        while len(states) < 2 * len(ended.released()) + 2:
            twin.undo()
            states.append(state(twin))
        self.assertRaises(NothingLeft, twin.undo)
        self.assertEqual(states[-1], state(Rounding(ended.book, twin.present)))
        for told, room in zip(states[-2::-2], [*ended.released(), None]):
            self.assertEqual((twin.step(), state(twin)), ("vertex", told))
            if room is not None:
                twin.release(room)
        self.assertEqual(state(twin), state(ended))

    def test_twins_go_their_own_ways(self):
        rounding = pair_rounding()
        rounding.step()
        before = state(rounding)
        one, other = rounding.twin(), rounding.twin()
        one.release("Oak")
        other.release("Elm")
        self.assertEqual((one.run(), other.run()), (1, 1))
        self.assertEqual((one.found_seats(), other.found_seats()), ([2, 1], [1, 2]))
        self.assertEqual(state(rounding), before)
        third = one.twin()
        third.undo()
        third.undo()
        self.assertEqual((state(third), one.ended, one.released()), (before, True, ["Oak"]))
        rounding.undo()
        self.assertEqual(other.found_seats(), [1, 2])
        for _ in range(3):
            other.undo()
        self.assertRaises(NothingLeft, other.undo)

    def test_run_by_turns(self):
        rounding = pair_rounding()
        self.assertEqual(rounding.run(), 3)
        ended = state(rounding)
        for many in (1, 2, 3, 1):
            for _ in range(many):
                rounding.undo()
            self.assertEqual((rounding.run(), state(rounding)), (many, ended))


class FactTest(unittest.TestCase):
    def look(self, rounding):
        """Compares a state with the words of [25]."""
        self.assertEqual(rounding.region().rows(), roundings.region_rows(rounding))
        self.assertEqual(rounding.weight_list(), roundings.weight_list(rounding))
        self.assertEqual(rounding.releasable(), roundings.releasable(rounding))
        self.assertIs(rounding.ended, rounding.next_kind is None)
        self.assertIn(roundings.unsettled_part(rounding), rounding.region())
        settled, numbers = rounding.settled(), rounding.present.numbers()
        self.assertEqual(sorted([*settled, *rounding.unsettled()]), list(range(rounding.book.many_open)))
        self.assertTrue(all(numbers[at] == worth * rounding.present.below for at, worth in settled.items()))
        if rounding.next_kind == "release":
            self.assertGreater(len(rounding.releasable()), 0)
            self.look_behind_vertex(rounding)
        elif rounding.released() and not rounding.ended:
            elder = rounding.twin()
            elder.undo()
            self.assertEqual((elder.present, elder.settled()), (rounding.present, settled))
            self.assertEqual(elder.released(), rounding.released()[:-1])

    def look_behind_vertex(self, rounding):
        below = rounding.present.below
        numbers = rounding.present.numbers()
        self.assertTrue(all(0 < numbers[at] < below for at in rounding.unsettled()))
        elder = rounding.twin()
        elder.undo()
        point = Shares([numbers[at] for at in elder.unsettled()], below=below)
        self.assertIs(elder.region().is_vertex(point), True)
        best = elder.region().greatest(elder.weight_list())
        totals = [sum(weight * number for weight, number in zip(elder.weight_list(), told.numbers())) * other.below
                  for told, other in ((point, best), (best, point))]
        self.assertEqual(totals[0], totals[1])
        self.assertEqual(elder.released(), rounding.released())

    def check(self, book, shares):
        """All ends of a rounding, checked by the facts of [26]."""
        beginning = Rounding(book, shares)
        pairs = roundings.row_pairs(book)
        self.assertEqual([pairs[row] for row in beginning.full()], roundings.full_pairs(book, shares))
        ends = roundings.all_ends(beginning, self.look)
        for ended in ends:
            seats, final = ended.found_seats(), ended.final()
            self.assertEqual(final.deals(), [next((at for at in book.numbers(family) if ended.settled()[at]), None)
                                             for family in book.family_names()])
            for at, room in enumerate(book.room_names()):
                full = ("room", room) in [pairs[row] for row in ended.full()]
                self.assertEqual(seats[at], final.counts()[at] if full else max(book.seats()[at], final.counts()[at]))
                self.assertLessEqual(abs(seats[at] - book.seats()[at]), 2 * book.width - 2)
            self.assertGreaterEqual(sum(seats), sum(book.seats()))
            self.assertIs(is_stable(final, seats=seats), True)
            self.assertEqual(final.over(seats=seats), [])
            self.assertEqual(len(ended.released()), len(set(ended.released())))
        return ends

    def test_several_families_with_every_choice(self):
        far, many = [], []
        for book in several_books():
            ends = self.check(book, shares_of(book))
            many.append(max(len(ended.released()) for ended in ends))
            far.append(max(abs(one - other) for ended in ends for one, other in zip(ended.found_seats(), book.seats())))
        self.assertEqual((max(many), max(far)), (4, 2))

    def test_rooms_whose_rows_are_not_full_at_the_beginning(self):
        book = random_book(383, rooms=3, families=5, size=3, deals=3, seats=3)
        pairs = roundings.row_pairs(book)
        found = [(room, ended) for ended in self.check(book, shares_of(book)) for room in ended.released()
                 if ("room", room) not in [pairs[row] for row in ended.full()]]
        self.assertGreater(len(found), 0)

    def test_full_rooms_that_cannot_be_released(self):
        totals = []

        def look(rounding):
            rooms = [row for row in roundings.full_pairs(rounding.book, rounding.present) if row[0] == "room"]
            for row in [row for row in rooms if rounding.next_kind == "release" and row[1] not in rounding.released()]:
                total = sum(roundings.entry(rounding.book, row, number) for number in rounding.unsettled())
                least = 1 <= total < 2 * rounding.book.width
                totals.append((total, 2 * rounding.book.width))
                self.assertIs(row[1] in rounding.releasable(), least)

        for book in several_books():
            roundings.all_ends(Rounding(book, shares_of(book)), look)
        self.assertTrue(any(total == 0 for total, _ in totals))
        self.assertTrue(any(total == limit - 1 for total, limit in totals))
        self.assertTrue(any(total == limit for total, limit in totals))

    def test_a_family_with_the_name_of_a_room(self):
        for name in ("c", "d"):
            book = renamed(pair_book(), rooms={}, families={name: "Oak"})
            self.assertEqual(len(self.check(book, HALVES)), 2)

    def test_mixtures_and_whole_shares(self):
        told = 0
        for seed in (0, 40, 50, 57, 71, 98, 129, 170, 586, 920, 1474):
            book = random_book(seed, rooms=3, families=4, size=3, deals=3, seats=3)
            mixed = roundings.mixtures(book)
            told += len(mixed)
            for shares in (*mixed, *roundings.whole_shares(book)):
                self.check(book, shares)
                self.check(book + pair_book(), roundings.joined(shares, HALVES))
        self.assertGreater(told, 10)

    def test_whole_shares_end_at_once(self):
        book = random_book(40, rooms=3, families=4, size=3, deals=3, seats=3)
        for shares in roundings.whole_shares(book):
            rounding = Rounding(book, shares)
            self.assertEqual((rounding.run(), rounding.present, rounding.found_seats()), (1, shares, book.seats()))

    def test_width_1_without_a_release(self):
        books = [random_book(seed, rooms=3, families=5, size=1, deals=3, seats=2) for seed in range(40)]
        parts = 0
        for book in (Book.read(roundings.ROUND), Book.read(roundings.ROUND) + books[0], *books):
            self.assertEqual(book.width, 1)
            for shares in (shares_of(book), *roundings.mixtures(book)):
                rounding = Rounding(book, shares)
                self.assertEqual((rounding.step(), rounding.ended), ("vertex", True))
                self.assertEqual((rounding.found_seats(), rounding.released()), (book.seats(), []))
                parts += not shares.is_whole
        self.assertGreater(parts, 5)


if __name__ == "__main__":
    unittest.main()
