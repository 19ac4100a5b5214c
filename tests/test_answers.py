"""nearseats.answers: what answers keep and tell [12], and the reasons of an assignment [27]."""

import unittest

from nearseats.answers import Answer, reasons_for
from nearseats.assignments import Assignment
from nearseats.books import Book
from nearseats.errors import InvalidSeats

from randombooks import random_assignment, random_book, random_seats
from samples import ODD_VALUES, pair_book

NO_SEATS = tuple(value for value in ODD_VALUES if value is not None and not isinstance(value, (list, tuple)))


class KeptTest(unittest.TestCase):
    def test_what_is_told(self):
        answer = Answer([2, 1], [0, None], {2: "family", 1: "room Oak"})
        self.assertEqual((answer.seats(), answer.deals()), ([2, 1], [0, None]))
        self.assertEqual(list(answer.reasons().items()), [(1, "room Oak"), (2, "family")])
        self.assertTrue(answer == Answer(reasons={1: "room Oak", 2: "family"}, deals=(0, None), seats=(2, 1)))

    def test_tuples_become_lists(self):
        answer = Answer((2, 1), (0, None), {})
        self.assertEqual((answer.seats(), answer.deals()), ([2, 1], [0, None]))
        self.assertIsInstance(answer.seats(), list)
        self.assertIsInstance(answer.deals(), list)
        self.assertEqual((Answer((), (), {}).seats(), Answer((), (), {}).deals()), ([], []))

    def test_other_values_as_they_are(self):
        for value in ODD_VALUES:
            answer = Answer(value, value, value)
            wanted = list(value) if isinstance(value, tuple) else value
            self.assertEqual((answer.seats(), answer.deals(), answer.reasons()), (wanted, wanted, value))
            self.assertEqual([type(answer.seats()), type(answer.deals())], [type(wanted)] * 2)
            self.assertIs(type(answer.reasons()), type(value))
        assignment = Assignment.empty(pair_book())
        self.assertIs(Answer(assignment, 1, 2).seats(), assignment)

    def test_keys_that_ascend(self):
        self.assertEqual(list(Answer([], [], {5: 1, -3: 2, 10 ** 30: 3, 0: 4}).reasons()), [-3, 0, 5, 10 ** 30])
        self.assertEqual(list(Answer([], [], {5: 1, "a": 2, 0: 3}).reasons()), [5, "a", 0])
        self.assertEqual(list(Answer([], [], {5: 1, None: 2, 0: 3}).reasons()), [5, None, 0])
        self.assertEqual(list(Answer([], [], {(2,): 1, (1,): 2}).reasons()), [(2,), (1,)])

    def test_what_is_passed_is_copied(self):
        seats = [2, [1, {"a": [3]}], (4, [5])]
        deals = (0, [None])
        reasons = {1: ["x", {"y": []}], 0: {"z": 2}}
        answer = Answer(seats, deals, reasons)
        seats[1][1]["a"].append(9)
        seats[2][1].clear()
        seats.append(7)
        deals[1].append(8)
        reasons[1][1]["y"].append(1)
        reasons[0]["z"] = 3
        reasons[6] = "more"
        self.assertEqual(answer.seats(), [2, [1, {"a": [3]}], (4, [5])])
        self.assertEqual(answer.deals(), [0, [None]])
        self.assertEqual(answer.reasons(), {0: {"z": 2}, 1: ["x", {"y": []}]})

    def test_what_is_told_is_new(self):
        answer = Answer([[1], {"a": [2]}, ([3],)], [[4]], {0: [5, {"b": 6}], 1: ([7],)})
        answer.seats().append(1)
        answer.seats()[0].append(1)
        answer.seats()[1]["a"].append(1)
        answer.seats()[2][0].append(1)
        answer.deals()[0].clear()
        answer.reasons()[0][1]["b"] = 0
        answer.reasons()[1][0].clear()
        answer.reasons().clear()
        answer.reason(0)[1].clear()
        answer.reason(1)[0].append(8)
        self.assertEqual(answer.seats(), [[1], {"a": [2]}, ([3],)])
        self.assertEqual(answer.deals(), [[4]])
        self.assertEqual(answer.reasons(), {0: [5, {"b": 6}], 1: ([7],)})

    def test_lists_and_dicts_in_the_place_of_the_others_are_copied_too(self):
        seats = {"a": [1]}
        deals = {0: [2]}
        reasons = [[3], {"b": [4]}]
        answer = Answer(seats, deals, reasons)
        seats["a"].append(5)
        deals[1] = 6
        reasons[1]["b"].append(7)
        reasons.append(8)
        self.assertEqual((answer.seats(), answer.deals(), answer.reasons()),
                         ({"a": [1]}, {0: [2]}, [[3], {"b": [4]}]))
        answer.seats()["a"].clear()
        answer.deals().clear()
        answer.reasons()[0].append(9)
        self.assertEqual((answer.seats(), answer.deals(), answer.reasons()),
                         ({"a": [1]}, {0: [2]}, [[3], {"b": [4]}]))
        within = [1]
        answer = Answer(None, None, (within,))
        within.append(2)
        self.assertEqual(answer.reasons(), ([1],))
        answer.reasons()[0].append(3)
        self.assertEqual(answer.reasons(), ([1],))

    def test_reason(self):
        answer = Answer([], [], {4: "family", 2: None, "3": "x", 5: ["odd"], -1: "room Oak"})
        self.assertEqual([answer.reason(number) for number in (4, 2, 3, 5, -1, 0)],
                         ["family", None, None, ["odd"], "room Oak", None])
        self.assertIsNone(answer.reason(number=10 ** 9))
        # True is no number, though it is equal to 1 for Python.
        self.assertIsNone(Answer([], [], {1: "family"}).reason(True))

    def test_reasons_that_are_no_dict(self):
        for value in (None, True, 3, "family", [], ["family"], (), ("family",), pair_book()):
            self.assertIsNone(Answer([], [], value).reason(0))


class ObjectTest(unittest.TestCase):
    def test_equality(self):
        answer = Answer([1, 2], [0, None], {1: "family", 2: "x"})
        self.assertTrue(answer == Answer((1, 2), (0, None), {2: "x", 1: "family"}))
        self.assertFalse(answer != Answer((1, 2), (0, None), {2: "x", 1: "family"}))
        self.assertTrue(Answer([1], [0], {1: 1}) == Answer([True], [False], {1: True}))
        self.assertTrue(Answer(None, pair_book(), "x") == Answer(None, pair_book(), "x"))
        for other in (Answer([1, 3], [0, None], {1: "family", 2: "x"}), Answer([1, 2], [0, 1], {1: "family", 2: "x"}),
                      Answer([1, 2], [0, None], {1: "family"}), Answer([1, 2], [0, None], None)):
            self.assertFalse(answer == other)
            self.assertTrue(answer != other)
        self.assertFalse(Answer([(1,)], [], {}) == Answer([[1]], [], {}))
        for value in (*ODD_VALUES, ([1, 2], [0, None], {})):
            self.assertFalse(answer == value)

    def test_repr(self):
        self.assertEqual(repr(Answer([1], [0], {1: "family", 2: "x"})), "Answer(2 reasons)")
        self.assertEqual(repr(Answer([1], [0], {1: "family"})), "Answer(1 reasons)")
        self.assertEqual(repr(Answer(None, None, {1: None, "x": 3, 99: [], (): 0})), "Answer(4 reasons)")
        self.assertEqual(repr(Answer([], [], {})), "Answer(0 reasons)")


class ReasonsForTest(unittest.TestCase):
    TEXT = ("book\nroom Oak 1\nroom Elm 2\nroom Ash 1\n"
            "family c 2 : Elm Oak | Oak Elm | - Elm\nfamily d 1 : Oak | Elm\nfamily e 1 : Elm | Ash\n"
            "order Oak : d.1 c.1 c.2\norder Elm : e.1 d.1 c.2 c.1\norder Ash : e.1\nend\n")
    # The open deals: c 0, 1 and 2, d 3 and 4, e 5 and 6.

    def setUp(self):
        self.book = Book.read(self.TEXT)

    def told(self, *deals, seats=None):
        return reasons_for(Assignment(self.book, list(deals)), seats=seats)

    def test_a_better_deal_and_full_rooms(self):
        self.assertEqual(self.told(0, 3, None), {1: "family", 2: "family", 4: "family"})
        self.assertEqual(self.told(2, 3, 5), {0: "room Oak", 1: "room Oak", 4: "family", 6: "family"})
        self.assertEqual(list(self.told(2, 3, 5)), [0, 1, 4, 6])

    def test_the_first_room_in_the_order_of_the_book(self):
        # Elm is full with d.1 and e.1 and comes first in the deal 0, but Oak comes first in the book.
        self.assertEqual(self.told(None, 4, 5, seats=[0, 2, 0]),
                         {0: "room Oak", 1: "room Oak", 2: "room Elm", 3: "room Oak", 6: "family"})
        self.assertEqual(self.told(None, 4, 5, seats=[1, 2, 0]),
                         {0: "room Elm", 1: "room Elm", 2: "room Elm", 6: "family"})

    def test_the_family_comes_ahead_of_the_rooms(self):
        self.assertEqual(self.told(None, 3, 5, seats=[1, 1, 1])[4], "family")

    def test_no_reason(self):
        self.assertEqual(self.told(None, None, None), {})
        self.assertEqual(self.told(None, None, None, seats=[9, 0, 9]),
                         {0: "room Elm", 1: "room Elm", 2: "room Elm", 4: "room Elm", 5: "room Elm"})
        book = Book.read("book\nroom Oak 1\nroom Elm 1\nfamily c 2 : Oak Elm | Oak -\norder Oak : c.1\n"
                         "order Elm : c.2\nend\n")
        # c.1 is a resident of Oak and does not come ahead of itself.
        self.assertEqual(reasons_for(Assignment(book, [1])), {})

    def test_a_room_that_is_over_gives_no_reason(self):
        self.assertEqual(self.told(2, 3, 5, seats=[0, 1, 0]), {4: "family", 6: "family"})

    def test_nothing_is_missed(self):
        self.assertEqual(reasons_for(Assignment.empty(Book.empty())), {})
        book = Book.read("book\nroom Oak 1\nfamily c 1 : Oak\norder Oak : c.1\nend\n")
        self.assertEqual(reasons_for(assignment=Assignment(book, [0]), seats=[0]), {})

    def test_wrong_seats(self):
        for value in (*NO_SEATS, [], [1, 2], [1, 2, 1, 0]):
            self.check(-1, value)
        for value in (None, True, False, -1, "1", ()):
            self.check(1, [1, value, value])
            self.check(2, (1, 2, value))
        with self.assertRaises(TypeError):
            reasons_for(Assignment(self.book, [0, 3, None]), [1, 2, 1])

    def check(self, at, seats):
        with self.assertRaises(InvalidSeats) as caught:
            self.told(0, 3, None, seats=seats)
        self.assertEqual(caught.exception.at, at)

    def test_by_the_words_of_the_document(self):
        for seed in range(80):
            book = random_book(seed, rooms=3, families=4, size=3, deals=4, seats=4)
            assignment = random_assignment(seed + 1, book)
            for seats in (None, random_seats(seed, book)):
                meant = book.seats() if seats is None else seats
                wanted = {}
                for number in range(book.many_open):
                    told = naive_reasons(assignment, number, meant)
                    if number not in assignment and told:
                        wanted[number] = told[0]
                self.assertEqual(list(reasons_for(assignment, seats=seats).items()), list(wanted.items()))


def naive_reasons(assignment, number, seats):
    """All right reasons for a missed deal, by the words of [12]."""
    book = assignment.book
    mine = book.numbers(book.family_names()[book.family_of(number)])
    found = ["family"] if any(ahead in assignment for ahead in mine[:mine.index(number)]) else []
    for room, many in zip(book.room_names(), seats):
        order = book.order(room)
        residents = assignment.residents(room)
        sent = sorted(book.sent(number, room), key=order.index)
        if sent and len(residents) == many and all(order.index(sent[-1]) > order.index(one) for one in residents):
            found.append(f"room {room}")
    return found


if __name__ == "__main__":
    unittest.main()
