"""nearseats.blocking: whom a room chooses, deals that block, and stable assignments [11]."""

import unittest

from nearseats.assignments import Assignment
from nearseats.blocking import blocking, blocks, chosen, is_stable
from nearseats.books import Book
from nearseats.errors import InvalidSeats, UnknownDeal, UnknownRoom

from randombooks import random_assignment, random_book, random_seats
from samples import ODD_VALUES, pair_book

TEXT = ("book\nroom Oak 2\nroom Elm 1\nroom Ash 0\n"
        "family c 3 : Oak - Oak | Elm Oak - | - - Elm\n"
        "family d 1 : Oak | Elm\n"
        "family e 2 : Oak Oak | Elm - | - Oak\n"
        "order Oak : e.2 c.3 d.1 c.2 c.1 e.1\n"
        "order Elm : d.1 c.1 e.1 c.3\n"
        "order Ash : d.1 c.1\nend\n")
# The open deals: c 0, 1 and 2, d 3 and 4, e 5, 6 and 7.

NO_SEATS = tuple(value for value in ODD_VALUES if value is not None and not isinstance(value, (list, tuple)))


class Blocking(unittest.TestCase):
    def setUp(self):
        self.book = Book.read(TEXT)

    def assigned(self, *deals):
        return Assignment(self.book, list(deals))

    def check_seats(self, call):
        """Checks that a call with seats refuses all wrong ones."""
        for value in (*NO_SEATS, [], (), [2], [2, 1, 0, 0], [True], "210", {0: 2, 1: 1, 2: 0}, self.book):
            self.check_at(-1, call, value)
        for value in (None, True, False, -1, "1", (), [1], {}, self.book):
            self.check_at(0, call, [value, 1, 0])
            self.check_at(1, call, (2, value, value))
            self.check_at(2, call, [2, 1, value])

    def check_at(self, at, call, seats):
        with self.assertRaises(InvalidSeats) as caught:
            call(seats)
        self.assertEqual(caught.exception.at, at, seats)


class ChosenTest(Blocking):
    def test_the_first_ones_in_the_order_of_the_room(self):
        self.assertEqual(chosen(self.book, "Oak", ["c.1", "e.1", "d.1", "e.2"]), ["e.2", "d.1"])
        self.assertEqual(chosen(self.book, "Oak", ["e.1", "c.1"]), ["c.1", "e.1"])
        self.assertEqual(chosen(self.book, "Elm", ["c.3", "e.1", "c.1"]), ["c.1"])

    def test_not_more_members_than_seats(self):
        self.assertEqual(chosen(self.book, "Oak", ["e.1"]), ["e.1"])
        self.assertEqual(chosen(self.book, "Oak", []), [])
        self.assertEqual(chosen(self.book, "Elm", ["c.3"]), ["c.3"])

    def test_no_seats(self):
        self.assertEqual(chosen(self.book, "Ash", ["d.1", "c.1"]), [])
        self.assertEqual(chosen(self.book, "Oak", ["e.2"], seats=[0, 1, 0]), [])

    def test_other_seats(self):
        members = ["e.1", "c.1", "c.2", "d.1", "c.3"]
        self.assertEqual(chosen(self.book, "Oak", members, seats=[3, 0, 0]), ["c.3", "d.1", "c.2"])
        self.assertEqual(chosen(self.book, "Oak", members, seats=(5, 0, 0)), ["c.3", "d.1", "c.2", "c.1", "e.1"])
        self.assertEqual(chosen(self.book, "Oak", members, seats=[10 ** 30, 0, 0]), chosen(
            self.book, "Oak", members, seats=[9, 0, 0]))
        self.assertEqual(chosen(self.book, "Ash", ["c.1"], seats=[0, 0, 1]), ["c.1"])
        self.assertEqual(chosen(self.book, "Oak", members, seats=None), ["c.3", "d.1"])

    def test_members_that_are_listed_twice(self):
        self.assertEqual(chosen(self.book, "Oak", ["c.1", "e.2", "e.2", "c.1", "e.2"]), ["e.2", "c.1"])
        self.assertEqual(chosen(self.book, "Oak", ["e.1", "e.1"]), ["e.1"])

    def test_members_that_the_room_does_not_take(self):
        self.assertEqual(chosen(self.book, "Elm", ["c.2", "e.2", "c.3"]), ["c.3"])
        self.assertEqual(chosen(self.book, "Elm", ["c.2"], seats=[9, 9, 9]), [])

    def test_members_of_no_family(self):
        self.assertEqual(chosen(self.book, "Oak", ["x.1", "c.9", "e.1", "d.2"]), ["e.1"])
        self.assertEqual(chosen(self.book, "Ash", ["x.1"], seats=[9, 9, 9]), [])

    def test_what_is_passed_stays(self):
        members = ["c.1", "e.2", "e.2"]
        seats = [1, 1, 1]
        told = chosen(self.book, "Oak", members, seats=seats)
        self.assertEqual((members, seats), (["c.1", "e.2", "e.2"], [1, 1, 1]))
        self.assertIsInstance(told, list)
        told.append("more")
        self.assertEqual(chosen(self.book, "Oak", tuple(members), seats=seats), ["e.2"])
        self.assertEqual(self.book.order("Oak"), ["e.2", "c.3", "d.1", "c.2", "c.1", "e.1"])

    def test_by_name(self):
        self.assertEqual(chosen(members=["c.1"], room="Oak", book=self.book), ["c.1"])
        with self.assertRaises(TypeError):
            chosen(self.book, "Oak", ["c.1"], [2, 1, 0])

    def test_unknown_rooms_come_ahead_of_wrong_seats(self):
        for value in (*ODD_VALUES, "c", "-"):
            for seats in (None, [], [2, 1, 0]):
                with self.assertRaises(UnknownRoom) as caught:
                    chosen(self.book, value, ["c.1"], seats=seats)
                self.assertEqual(caught.exception.value, value)

    def test_wrong_seats(self):
        self.check_seats(lambda seats: chosen(self.book, "Oak", ["c.1"], seats=seats))


class BlocksTest(Blocking):
    def test_a_family_that_is_out(self):
        out = self.assigned(None, None, None)
        self.assertEqual([blocks(out, number) for number in range(8)], [True] * 8)

    def test_a_deal_ahead_of_the_one_that_the_family_has(self):
        self.assertIs(blocks(self.assigned(2, None, None), 0), True)
        self.assertIs(blocks(self.assigned(2, None, None), 1), True)
        self.assertIs(blocks(self.assigned(None, 4, None), 3), True)

    def test_a_deal_behind_and_the_given_deal_itself(self):
        given = self.assigned(1, 3, 6)
        self.assertEqual([blocks(given, number) for number in (1, 2, 3, 4, 6, 7)], [False] * 6)
        first = self.assigned(0, 3, 5)
        self.assertEqual([blocks(first, number, seats=[9, 9, 9]) for number in range(8)], [False] * 8)

    def test_residents_that_come_ahead(self):
        # d.1 and e.2 fill Oak, so that c.1 is not chosen there.
        self.assertIs(blocks(self.assigned(None, 3, 7), 0), False)
        self.assertIs(blocks(self.assigned(None, 3, None), 0), False)
        self.assertIs(blocks(self.assigned(None, None, 7), 0), False)
        self.assertIs(blocks(self.assigned(None, None, 6), 0), True)
        # One room that does not choose is enough.
        self.assertIs(blocks(self.assigned(None, 4, None), 1), False)
        self.assertIs(blocks(self.assigned(None, 3, None), 1), True)

    def test_residents_that_stand_behind_are_no_hindrance(self):
        # e.1 and c.3 stand behind d.1, who is chosen although Elm has no seat left.
        self.assertIs(blocks(self.assigned(2, None, None), 4), True)
        self.assertIs(blocks(self.assigned(2, None, 6), 4), True)
        self.assertIs(blocks(self.assigned(None, 4, None), 6), False)

    def test_residents_of_the_same_family_count(self):
        book = Book.read("book\nroom Oak 2\nroom Elm 1\nfamily c 2 : Elm Oak | Oak Oak\nfamily d 1 : Oak\n"
                         "order Oak : c.1 d.1 c.2\norder Elm : c.1\nend\n")
        # c.1 would leave Oak, but is among its residents all the same.
        self.assertIs(blocks(Assignment(book, [1, None]), 0), True)
        self.assertIs(blocks(Assignment(book, [1, 2]), 0, seats=[2, 1]), False)
        self.assertIs(blocks(Assignment(book, [1, 2]), 0, seats=[3, 1]), True)
        self.assertIs(blocks(Assignment(book, [None, 2]), 0), True)
        self.assertIs(blocks(self.assigned(1, None, None), 0), False)
        self.assertIs(blocks(self.assigned(1, None, None), 0, seats=[3, 1, 0]), True)

    def test_a_member_counts_once(self):
        book = Book.read("book\nroom Oak 2\nroom Elm 1\nfamily c 2 : Oak - | Oak Elm\nfamily d 1 : Oak\n"
                         "order Oak : d.1 c.1\norder Elm : c.2\nend\n")
        # c.1 is a resident of Oak and sent there by the other deal, too.
        self.assertIs(blocks(Assignment(book, [1, 2]), 0), True)

    def test_two_members_in_one_room(self):
        self.assertIs(blocks(self.assigned(None, None, 7), 5), True)
        self.assertIs(blocks(self.assigned(None, None, None), 5, seats=[1, 1, 0]), False)
        self.assertIs(blocks(self.assigned(None, 3, None), 5), False)
        self.assertIs(blocks(self.assigned(None, 3, None), 5, seats=[3, 1, 0]), True)

    def test_a_room_that_is_over(self):
        over = self.assigned(0, None, 7)
        self.assertEqual(over.over(), ["Oak"])
        self.assertIs(blocks(over, 3), False)
        self.assertIs(blocks(over, 3, seats=[3, 0, 0]), True)

    def test_other_seats(self):
        out = self.assigned(None, None, None)
        self.assertEqual([blocks(out, number, seats=[0, 1, 0]) for number in range(8)],
                         [False, False, True, False, True, False, True, False])
        self.assertEqual([blocks(out, number, seats=(1, 0, 0)) for number in range(8)],
                         [False, False, False, True, False, False, False, True])

    def test_by_name(self):
        self.assertIs(blocks(number=0, assignment=self.assigned(None, None, None)), True)
        with self.assertRaises(TypeError):
            blocks(self.assigned(None, None, None), 0, [2, 1, 0])

    def test_unknown_deals_come_ahead_of_wrong_seats(self):
        out = self.assigned(None, None, None)
        for value in (None, True, False, -1, 8, 10 ** 9, "0", "c", (), (0,), [], [0], {}, {0: 0}, self.book, out):
            for seats in (None, [], [2, 1, 0]):
                with self.assertRaises(UnknownDeal) as caught:
                    blocks(out, value, seats=seats)
                self.assertEqual(caught.exception.value, value)
        with self.assertRaises(UnknownDeal):
            blocks(Assignment.empty(Book.empty()), 0)

    def test_wrong_seats(self):
        self.check_seats(lambda seats: blocks(self.assigned(0, 3, 7), 0, seats=seats))
        self.check_seats(lambda seats: blocks(self.assigned(None, None, None), 0, seats=seats))


class BlockingTest(Blocking):
    def test_ascending(self):
        self.assertEqual(list(blocking(self.assigned(None, None, None))), list(range(8)))
        self.assertEqual(list(blocking(self.assigned(None, 4, 7))), [3, 5])
        self.assertEqual(list(blocking(self.assigned(2, None, None))), [0, 1, 3, 4, 5, 6, 7])
        self.assertEqual(list(blocking(Assignment.empty(Book.empty()))), [])

    def test_it_is_a_generator(self):
        told = blocking(self.assigned(None, None, None))
        self.assertIs(iter(told), told)
        self.assertEqual([next(told), next(told)], [0, 1])

    def test_other_seats(self):
        out = self.assigned(None, None, None)
        self.assertEqual(list(blocking(out, seats=[0, 1, 0])), [2, 4, 6])
        self.assertEqual(list(blocking(seats=None, assignment=out)), list(range(8)))

    def test_an_error_is_raised_when_the_first_item_is_asked_for(self):
        told = blocking(self.assigned(None, None, None), seats=[2, 1])
        with self.assertRaises(InvalidSeats) as caught:
            next(told)
        self.assertEqual(caught.exception.at, -1)
        self.check_seats(lambda seats: list(blocking(self.assigned(0, 3, 5), seats=seats)))

    def test_seats_that_are_passed_stay(self):
        seats = [0, 1, 0]
        list(blocking(self.assigned(None, None, None), seats=seats))
        self.assertEqual(seats, [0, 1, 0])


class StableTest(Blocking):
    def test_a_room_that_is_over(self):
        over = self.assigned(0, 4, 7)
        self.assertEqual((over.over(), list(blocking(over))), (["Oak"], []))
        self.assertIs(is_stable(over), False)
        self.assertIs(is_stable(over, seats=[3, 1, 0]), False)
        self.assertEqual(list(blocking(over, seats=[3, 1, 0])), [3])

    def test_a_deal_that_blocks(self):
        given = self.assigned(None, 4, 7)
        self.assertEqual((given.over(), is_stable(given)), ([], False))

    def test_a_stable_assignment(self):
        book = Book.read("book\nroom Oak 1\nroom Elm 1\nfamily c 1 : Oak | Elm\nfamily d 1 : Oak | Elm\n"
                         "order Oak : d.1 c.1\norder Elm : c.1 d.1\nend\n")
        found = [(c, d) for c in (None, 0, 1) for d in (None, 2, 3) if is_stable(Assignment(book, [c, d]))]
        self.assertEqual(found, [(1, 2)])
        self.assertIs(is_stable(self.assigned(0, 3, 5), seats=[5, 0, 0]), True)
        self.assertIs(is_stable(assignment=Assignment.empty(Book.empty())), True)

    def test_no_stable_assignment(self):
        book = pair_book()
        for c in (None, 0):
            for d in (None, 1, 2):
                self.assertIs(is_stable(Assignment(book, [c, d])), False)
        self.assertIs(is_stable(Assignment(book, [0, 1]), seats=[2, 1]), True)

    def test_wrong_seats(self):
        self.check_seats(lambda seats: is_stable(self.assigned(0, 3, 5), seats=seats))
        with self.assertRaises(TypeError):
            is_stable(self.assigned(0, 3, 5), [2, 1, 0])


def naive_chosen(book, room, members, many):
    ranked = sorted(set(members) & set(book.order(room)), key=book.order(room).index)
    return ranked[:many]


def naive_blocks(assignment, number, seats):
    """Whether a deal blocks, by the words of [11]."""
    book = assignment.book
    family = book.family_names()[book.family_of(number)]
    given = assignment.deals()[book.family_of(number)]
    if given is not None and given not in book.numbers(family)[book.numbers(family).index(number) + 1:]:
        return False
    for room, many in zip(book.room_names(), seats):
        sent = book.sent(number, room)
        if not set(sent) <= set(naive_chosen(book, room, assignment.residents(room) + sent, many)):
            return False
    return True


class ChanceTest(unittest.TestCase):
    def test_all_at_once(self):
        told = [0, 0]
        for seed in range(150):
            book = random_book(seed, rooms=3, families=4, size=3, deals=4, seats=4)
            assignment = random_assignment(seed, book)
            for seats in (None, random_seats(seed, book)):
                meant = book.seats() if seats is None else seats
                wanted = [number for number in range(book.many_open) if naive_blocks(assignment, number, meant)]
                self.assertEqual(list(blocking(assignment, seats=seats)), wanted)
                self.assertEqual([number for number in range(book.many_open)
                                  if blocks(assignment, number, seats=seats)], wanted)
                stable = not wanted and not assignment.over(seats=seats)
                self.assertIs(is_stable(assignment, seats=seats), stable)
                told[stable] += 1
        self.assertGreater(min(told), 5)

    def test_a_room_chooses_also_from_fewer_members(self):
        for seed in range(60):
            book = random_book(seed, rooms=1, families=5, size=3, seats=6)
            members = book.order("R0")
            for at in range(len(members)):
                fewer = members[:at] + members[at + 1:]
                for member in chosen(book, "R0", members):
                    self.assertTrue(member not in fewer or member in chosen(book, "R0", fewer))


if __name__ == "__main__":
    unittest.main()
