"""nearseats.books: the constructor, and what a book tells [3] [4]."""

import unittest

from nearseats.books import Book
from nearseats.errors import BadBook, UnknownDeal, UnknownFamily, UnknownRoom

from samples import ODD_VALUES, PAIR, pair_book

ROOMS = [("Oak", 1), ("Elm", 1)]
FAMILIES = [("c", 2, [("Oak", "Elm")]), ("d", 1, [("Oak",), ("Elm",)])]
ORDERS = [["c.1", "d.1", "c.2"], ["d.1", "c.2", "c.1"]]

# Values that are wrong wherever a list or a tuple with a fixed form is wanted.
NO_PARTS = tuple(value for value in ODD_VALUES if not isinstance(value, (list, tuple)))


class Faults(unittest.TestCase):
    def check(self, line, why, rooms, families, orders):
        with self.assertRaises(BadBook) as caught:
            Book(rooms, families, orders)
        self.assertEqual((caught.exception.line, caught.exception.why), (line, why))

    def check_room(self, why, room):
        self.check(2, why, [("Oak", 1), room], FAMILIES, ORDERS)

    def check_family(self, why, family):
        self.check(4, why, ROOMS, [FAMILIES[0], family], ORDERS)

    def check_order(self, why, order):
        self.check(6, why, ROOMS, FAMILIES, [ORDERS[0], order])


class MadeTest(unittest.TestCase):
    def test_lists_and_tuples_make_the_same_book(self):
        book = Book(ROOMS, FAMILIES, ORDERS)
        families = tuple((name, size, tuple(deals)) for name, size, deals in FAMILIES)
        other = Book(tuple(ROOMS), families, tuple(tuple(order) for order in ORDERS))
        named = Book(rooms=ROOMS, families=FAMILIES, orders=ORDERS)
        self.assertTrue(book == other == named)
        self.assertEqual(book.text(), PAIR)
        self.assertEqual(other.text(), PAIR)
        self.assertEqual(other.deals("d"), [("Oak",), ("Elm",)])
        self.assertEqual(other.order("Oak"), ["c.1", "d.1", "c.2"])

    def test_a_room_and_a_family_may_have_one_name(self):
        book = Book([("Oak", 0)], [("Oak", 1, [("Oak",)])], [["Oak.1"]])
        self.assertEqual((book.seats(), book.members("Oak")), ([0], ["Oak.1"]))

    def test_the_empty_book(self):
        for book in (Book([], [], []), Book((), (), ()), Book.empty()):
            self.assertEqual((book.text(), len(book), book.many_open, book.width), ("book\nend\n", 0, 0, 1))
            self.assertEqual((book.room_names(), book.family_names(), book.seats()), ([], [], []))


class ListFaultsTest(Faults):
    def test_values_that_are_no_lists(self):
        for value in NO_PARTS:
            self.check(1, "form", value, FAMILIES, ORDERS)
            self.check(3, "form", ROOMS, value, ORDERS)
            self.check(5, "form", ROOMS, FAMILIES, value)
            self.check(1, "form", value, value, value)
            self.check(1, "form", [], value, value)
            self.check(1, "form", [], [], value)
            self.check(3, "form", ROOMS, [], value)

    def test_too_few_orders(self):
        self.check(5, "form", ROOMS, FAMILIES, [])
        self.check(6, "form", ROOMS, FAMILIES, ORDERS[:1])
        self.check(2, "form", ROOMS[:1], [], [])

    def test_too_many_orders(self):
        self.check(7, "form", ROOMS, FAMILIES, [*ORDERS, []])
        self.check(7, "form", ROOMS, FAMILIES, [*ORDERS, None, []])
        self.check(1, "form", [], [], [[]])

    def test_a_wrong_order_comes_ahead_of_the_number_of_orders(self):
        self.check(5, "double", ROOMS, FAMILIES, [["c.1", "c.1"]])
        self.check(6, "name", ROOMS, FAMILIES, [[], ["e.1"], []])


class RoomFaultsTest(Faults):
    def test_form(self):
        for value in ODD_VALUES:
            self.check_room("form", value)
        for room in (["Elm", 1], ("Elm",), ("Elm", 1, 1), ("", 1), ("1Elm", 1), (7, 1), (None, 1), (["Elm"], 1),
                     ("Elm", -1), ("Elm", "1"), ("Elm", None), ("Elm", True), ("Elm", False), ("Elm", [1]),
                     ("-", 1), ("Elm\n", 1), (1, "Elm")):
            self.check_room("form", room)

    def test_name(self):
        self.check_room("name", ("Oak", 1))
        self.check_room("name", ("Oak", 7))

    def test_form_comes_ahead_of_name(self):
        self.check_room("form", ("Oak", -1))

    def test_the_first_room_counts(self):
        self.check(1, "form", [("Oak", -1), ("Oak", 1)], None, None)
        self.check(3, "name", [("Oak", 1), ("Elm", 1), ("Elm", 1), ("Ash", -1)], None, None)


class FamilyFaultsTest(Faults):
    def test_form(self):
        for value in ODD_VALUES:
            self.check_family("form", value)
        for family in (["d", 1, []], ("d", 1), ("d", 1, [], []), ("d.1", 1, []), (None, 1, []), (["d"], 1, []),
                       ("d", 0, []), ("d", -1, []), ("d", True, []), ("d", "1", []), ("d", None, []), ("d", [1], [])):
            self.check_family("form", family)

    def test_form_of_the_deals(self):
        for deals in NO_PARTS:
            self.check_family("form", ("d", 1, deals))
        for deal in (["Oak"], "Oak", ("Oak", "Elm"), (), ("",), (None,), (1,), (True,), (("Oak",),), (["Oak"],),
                     ("Oak ",), ("d.1",), ("--",), ("|",), None, 3, {}):
            self.check_family("form", ("d", 1, [("Elm",), deal]))
        self.check_family("form", ("d", 1, ("Oak",)))

    def test_name(self):
        self.check_family("name", ("c", 1, [("Oak",)]))
        self.check_family("name", ("d", 1, [("Oak",), ("Ash",)]))
        self.check_family("name", ("d", 2, [("-", "c")]))

    def test_empty(self):
        self.check_family("empty", ("d", 1, [("Oak",), ("-",)]))
        self.check_family("empty", ("d", 3, [("-", "-", "-")]))

    def test_double(self):
        self.check_family("double", ("d", 1, [("Oak",), ("Elm",), ("Oak",)]))
        self.check_family("double", ("d", 2, [("Oak", "-"), ("-", "Oak"), ("Oak", "-")]))

    def test_the_first_word_that_applies(self):
        self.check_family("form", ("c", 1, [("Ash",), ("-",), ("-",), None]))
        self.check_family("name", ("c", 1, [("-",), ("-",)]))
        self.check_family("name", ("d", 1, [("-",), ("-",), ("Ash",)]))
        self.check_family("empty", ("d", 1, [("Oak",), ("Oak",), ("-",)]))

    def test_the_first_family_counts(self):
        self.check(3, "empty", ROOMS, [("c", 1, [("-",)]), None], None)
        self.check(3, "name", ROOMS, [("c", 1, [("Ash",)]), ("c", 1, [])], [])


class OrderFaultsTest(Faults):
    def test_form(self):
        for value in NO_PARTS:
            self.check_order("form", value)
        for item in ("c", "c.0", "c.01", "c.3 ", "", "-", None, True, 3, ("c", 1), ["c.1"], {}, ("c.1",)):
            self.check_order("form", ["d.1", item])

    def test_name(self):
        for member in ("e.1", "c.3", "d.2", "Oak.1", "C.1", "d.999999999"):
            self.check_order("name", ["c.1", member])

    def test_double(self):
        self.check_order("double", ["c.1", "d.1", "c.1"])

    def test_the_first_word_that_applies(self):
        self.check_order("form", ["c.1", "c.1", "e.1", "e"])
        self.check_order("name", ["c.1", "c.1", "e.1"])


class ToldTest(unittest.TestCase):
    def setUp(self):
        self.book = Book.read("book\nroom Oak 2\nroom Elm 0\nroom Ash 3\nfamily c 2 : Oak Oak | Elm - | - Ash\n"
                              "family d 1 :\nfamily e 3 : Ash - Ash | Ash Oak Ash\n"
                              "order Oak : e.2 c.2 c.1\norder Elm : c.1\norder Ash : e.3 e.1 c.2\nend\n")

    def test_lists_of_the_book(self):
        self.assertEqual(self.book.room_names(), ["Oak", "Elm", "Ash"])
        self.assertEqual(self.book.family_names(), ["c", "d", "e"])
        self.assertEqual(self.book.seats(), [2, 0, 3])

    def test_of_a_family(self):
        book = self.book
        self.assertEqual([book.size("c"), book.size("d"), book.size(family="e")], [2, 1, 3])
        self.assertEqual(book.deals("c"), [("Oak", "Oak"), ("Elm", "-"), ("-", "Ash")])
        self.assertEqual([book.deals("d"), book.numbers("d")], [[], []])
        self.assertEqual([book.numbers("c"), book.numbers(family="e")], [[0, 1], [2, 3]])
        self.assertEqual([book.members("c"), book.members("d")], [["c.1", "c.2"], ["d.1"]])

    def test_of_a_room(self):
        self.assertEqual(self.book.order("Oak"), ["e.2", "c.2", "c.1"])
        self.assertEqual(self.book.order(room="Elm"), ["c.1"])
        self.assertEqual([self.book.room_seats(room) for room in ("Oak", "Elm", "Ash")], [2, 0, 3])

    def test_of_a_deal(self):
        book = self.book
        self.assertEqual([book.deal(0), book.deal(1), book.deal(number=3)],
                         [("Oak", "Oak"), ("-", "Ash"), ("Ash", "Oak", "Ash")])
        self.assertEqual([book.family_of(number) for number in range(4)], [0, 0, 2, 2])
        self.assertEqual(book.sent(0, "Oak"), ["c.1", "c.2"])
        self.assertEqual(book.sent(1, "Ash"), ["c.2"])
        self.assertEqual(book.sent(number=3, room="Ash"), ["e.1", "e.3"])
        self.assertEqual([book.sent(3, "Elm"), book.sent(3, "Oak")], [[], ["e.2"]])

    def test_unknown_rooms(self):
        for value in (*ODD_VALUES, "c", "oak"):
            for call in (self.book.order, self.book.room_seats, lambda room: self.book.sent(0, room)):
                with self.assertRaises(UnknownRoom) as caught:
                    call(value)
                self.assertEqual(caught.exception.value, value)

    def test_unknown_families(self):
        for value in (*ODD_VALUES, "Oak", "C"):
            for call in (self.book.size, self.book.deals, self.book.numbers, self.book.members):
                with self.assertRaises(UnknownFamily) as caught:
                    call(value)
                self.assertEqual(caught.exception.value, value)

    def test_unknown_deals(self):
        for value in (None, True, False, -1, 4, 10 ** 9, "0", (0,), [0], {0: 0}, ("Oak", "Oak"), self.book):
            for call in (self.book.deal, self.book.family_of, lambda number: self.book.sent(number, "Oak"),
                         lambda number: self.book.sent(number, "Pine")):
                with self.assertRaises(UnknownDeal) as caught:
                    call(value)
                self.assertEqual(caught.exception.value, value)

    def test_equality(self):
        book = pair_book()
        self.assertTrue(book == pair_book())
        self.assertFalse(book != pair_book())
        for old, new in (("room Oak 1", "room Oak 2"), ("family d 1 : Oak | Elm", "family d 1 : Elm | Oak"),
                         ("order Oak : c.1 d.1 c.2", "order Oak : d.1 c.1 c.2"), (" | Elm", "")):
            self.assertFalse(book == Book.read(PAIR.replace(old, new)), new)
        self.assertFalse(Book.read("book\nroom A 1\nroom B 1\norder A :\norder B :\nend\n")
                         == Book.read("book\nroom B 1\nroom A 1\norder B :\norder A :\nend\n"))
        for value in (None, PAIR, 2, [], ()):
            self.assertFalse(book == value)
            self.assertTrue(book != value)

    def test_len_truth_and_repr(self):
        self.assertEqual((len(self.book), len(Book.empty()), len(pair_book())), (3, 0, 2))
        self.assertIs(bool(Book.empty()), True)
        self.assertIs(bool(self.book), True)
        self.assertEqual(repr(self.book), "Book(3 rooms, 3 families)")
        self.assertEqual(repr(Book.empty()), "Book(0 rooms, 0 families)")
        self.assertEqual(repr(Book([("Oak", 1)], [("c", 1, [])], [[]])), "Book(1 rooms, 1 families)")


class CopiesTest(unittest.TestCase):
    def test_lists_that_were_passed(self):
        rooms, deals, order = [("Oak", 1)], [("Oak",)], ["c.1"]
        families, orders = [("c", 1, deals)], [order]
        book = Book(rooms, families, orders)
        text = book.text()
        rooms.append(("Elm", 1))
        deals.clear()
        order.append("c.2")
        families.append(("d", 1, []))
        orders.append([])
        self.assertEqual((book.text(), book.many_open, book.numbers("c")), (text, 1, [0]))

    def test_lists_that_were_told(self):
        book = pair_book()
        for told in (book.room_names, book.family_names, book.seats, lambda: book.deals("d"),
                     lambda: book.numbers("d"), lambda: book.members("c"), lambda: book.order("Oak"),
                     lambda: book.sent(0, "Oak")):
            before = told()
            self.assertIsInstance(before, list)
            told().append("more")
            told().clear()
            self.assertEqual(told(), before)
        self.assertEqual(book.text(), PAIR)
        self.assertTrue(book == pair_book())


class BesideTest(unittest.TestCase):
    def setUp(self):
        self.one = pair_book()
        self.two = Book.read("book\nroom Ash 2\nfamily e 1 : Ash\norder Ash : e.1\nend\n")
        self.three = Book.read("book\nroom c 0\nfamily Oak 1 :\norder c :\nend\n")

    def test_the_lists_of_the_first_and_then_of_the_second(self):
        both = self.one + self.two
        self.assertEqual(both.text(), "book\nroom Oak 1\nroom Elm 1\nroom Ash 2\nfamily c 2 : Oak Elm\n"
                         "family d 1 : Oak | Elm\nfamily e 1 : Ash\norder Oak : c.1 d.1 c.2\n"
                         "order Elm : d.1 c.2 c.1\norder Ash : e.1\nend\n")
        self.assertEqual((both.many_open, both.numbers("e"), len(both)), (4, [3], 3))
        self.assertEqual((self.two + self.one).family_names(), ["e", "c", "d"])
        self.assertEqual((self.one.text(), len(self.two)), (PAIR, 1))

    def test_the_empty_book_on_either_side(self):
        self.assertTrue(self.one + Book.empty() == self.one)
        self.assertTrue(Book.empty() + self.one == self.one)
        self.assertTrue(Book.empty() + Book.empty() == Book.empty())

    def test_three_in_a_row(self):
        row = self.one + self.two + self.three
        self.assertTrue(row == self.one + (self.two + self.three))
        self.assertEqual(row.room_names(), ["Oak", "Elm", "Ash", "c"])
        self.assertEqual(row.family_names(), ["c", "d", "e", "Oak"])

    def check(self, line, one, other):
        with self.assertRaises(BadBook) as caught:
            one + other
        self.assertEqual((caught.exception.line, caught.exception.why), (line, "name"))

    def test_names_that_meet(self):
        self.check(3, self.one, self.one)
        self.check(4, self.one, Book([("Ash", 1), ("Elm", 1), ("Oak", 1)], [], [[], [], []]))
        self.check(5, self.one, Book([], [("d", 1, [])], []))
        self.check(7, self.one, Book([("Ash", 1)], [("e", 1, []), ("c", 1, [])], [[]]))
        self.check(2, self.two, self.two)


if __name__ == "__main__":
    unittest.main()
