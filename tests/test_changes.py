"""nearseats.changes: new books made of elder ones [6]."""

import unittest

from nearseats.books import Book
from nearseats.changes import (cut, exchanged, renamed, with_deals, with_family, with_order, with_room, with_seats,
                               without_family)
from nearseats.errors import BadBook, InvalidPlace, UnknownFamily, UnknownRoom

from samples import ODD_VALUES, PAIR, pair_book

NO_LISTS = tuple(value for value in ODD_VALUES if not isinstance(value, (list, tuple)))


class Changes(unittest.TestCase):
    def setUp(self):
        self.book = pair_book()

    def tearDown(self):
        # No change touches the elder book.
        self.assertEqual(self.book.text(), PAIR)
        self.assertTrue(self.book == pair_book())

    def check_text(self, book, *changes):
        text = PAIR
        for old, new in changes:
            self.assertIn(old, text)
            text = text.replace(old, new)
        self.assertEqual(book.text(), text)
        self.assertTrue(book == Book.read(text))

    def check_bad(self, line, why, change, *values, **more):
        with self.assertRaises(BadBook) as caught:
            change(self.book, *values, **more)
        self.assertEqual((caught.exception.line, caught.exception.why), (line, why), values)

    def check_unknown(self, error, change, *others):
        """The errors of names that the book does not have come ahead of those of all other values."""
        known = self.book.family_names() if error is UnknownRoom else self.book.room_names()
        for value in (*ODD_VALUES, *known):
            with self.assertRaises(error) as caught:
                change(self.book, value, *others)
            self.assertEqual(caught.exception.value, value)


class RoomsTest(Changes):
    def test_with_room(self):
        book = with_room(self.book, "Ash", 3)
        self.check_text(book, ("family c", "room Ash 3\nfamily c"), ("end", "order Ash :\nend"))
        self.assertTrue(with_room(seats=3, room="Ash", book=self.book) == book)
        self.assertEqual(with_room(Book.empty(), "c", 0).text(), "book\nroom c 0\norder c :\nend\n")

    def test_with_room_of_wrong_values(self):
        for value in (None, 3, True, "", "-", "c.1", ("Ash",), ["Ash"], {"Ash": 1}, self.book):
            self.check_bad(3, "form", with_room, value, 1)
        for value in (None, -1, True, False, "1", (1,), [1], self.book):
            self.check_bad(3, "form", with_room, "Ash", value)
            self.check_bad(3, "form", with_room, "Oak", value)
        self.check_bad(3, "name", with_room, "Oak", 1)

    def test_with_seats(self):
        book = with_seats(self.book, "Elm", 0)
        self.check_text(book, ("room Elm 1", "room Elm 0"))
        self.assertTrue(with_seats(seats=0, room="Elm", book=self.book) == book)
        self.assertTrue(with_seats(self.book, "Oak", 1) == self.book)

    def test_with_seats_has_other_open_deals(self):
        book = with_seats(self.book, "Elm", 0)
        self.assertEqual((book.many_open, book.width, book.numbers("c"), book.numbers("d")), (1, 1, [], [0]))

    def test_with_seats_of_wrong_values(self):
        for value in (None, -1, True, False, "1", (1,), [1], self.book):
            self.check_bad(1, "form", with_seats, "Oak", value)
            self.check_bad(2, "form", with_seats, "Elm", value)
        self.check_unknown(UnknownRoom, with_seats, 1)
        self.check_unknown(UnknownRoom, with_seats, -1)


class OrdersTest(Changes):
    def test_with_order(self):
        book = with_order(self.book, "Elm", ["c.2"])
        self.check_text(book, ("order Elm : d.1 c.2 c.1", "order Elm : c.2"))
        self.assertTrue(with_order(members=("c.2",), room="Elm", book=self.book) == book)
        self.assertEqual(book.numbers("d"), [1])
        self.assertEqual(with_order(self.book, "Oak", []).order("Oak"), [])

    def test_with_order_keeps_no_list_that_was_passed(self):
        members = ["c.2"]
        book = with_order(self.book, "Elm", members)
        members.append("d.1")
        self.assertEqual(book.order("Elm"), ["c.2"])

    def test_with_order_of_wrong_values(self):
        for value in NO_LISTS:
            self.check_bad(5, "form", with_order, "Oak", value)
            self.check_bad(6, "form", with_order, "Elm", value)
        self.check_bad(6, "form", with_order, "Elm", ["e.1", "c"])
        self.check_bad(6, "name", with_order, "Elm", ["c.1", "c.1", "c.3"])
        self.check_bad(6, "double", with_order, "Elm", ["c.1", "d.1", "c.1"])
        self.check_unknown(UnknownRoom, with_order, [])
        self.check_unknown(UnknownRoom, with_order, None)

    def test_exchanged(self):
        book = exchanged(self.book, "Oak", 0)
        self.check_text(book, ("order Oak : c.1 d.1 c.2", "order Oak : d.1 c.1 c.2"))
        self.assertTrue(exchanged(place=0, room="Oak", book=self.book) == book)
        self.check_text(exchanged(self.book, "Oak", 1), ("c.1 d.1 c.2", "c.1 c.2 d.1"))
        self.check_text(exchanged(self.book, "Elm", 1), ("d.1 c.2 c.1", "d.1 c.1 c.2"))
        self.assertTrue(exchanged(book, "Oak", 0) == self.book)

    def test_exchanged_at_no_place(self):
        for place in (None, True, False, -1, 2, 3, 10 ** 9, "0", (0,), [0], {0: 0}, self.book):
            with self.assertRaises(InvalidPlace) as caught:
                exchanged(self.book, "Oak", place)
            self.assertEqual(caught.exception.value, place)
        for members in ([], ["c.1"]):
            with self.assertRaises(InvalidPlace):
                exchanged(with_order(self.book, "Oak", members), "Oak", 0)
        self.check_unknown(UnknownRoom, exchanged, 0)
        self.check_unknown(UnknownRoom, exchanged, None)


class FamiliesTest(Changes):
    def test_with_family(self):
        book = with_family(self.book, "e", 3, [("Oak", "-", "Elm"), ("-", "-", "Oak")])
        self.check_text(book, ("order Oak", "family e 3 : Oak - Elm | - - Oak\norder Oak"))
        self.assertTrue(with_family(deals=(("Oak", "-", "Elm"), ("-", "-", "Oak")), size=3, family="e",
                                    book=self.book) == book)
        self.assertEqual((book.many_open, book.numbers("e")), (3, []))
        self.assertEqual(with_family(self.book, "Oak", 1, []).deals("Oak"), [])

    def test_with_family_of_wrong_values(self):
        for value in (None, 3, True, "", "-", "c.1", ("e",), ["e"], {"e": 1}, self.book):
            self.check_bad(5, "form", with_family, value, 1, [])
        for value in (None, 0, -1, True, "1", (1,), [1], self.book):
            self.check_bad(5, "form", with_family, "e", value, [])
        for value in NO_LISTS:
            self.check_bad(5, "form", with_family, "e", 1, value)
        for deal in (["Oak"], ("Oak", "Elm"), "Oak", None, (None,), ()):
            self.check_bad(5, "form", with_family, "c", 1, [("Ash",), deal])
        self.check_bad(5, "name", with_family, "c", 1, [("-",), ("-",)])
        self.check_bad(5, "name", with_family, "e", 1, [("-",), ("Ash",)])
        self.check_bad(5, "empty", with_family, "e", 1, [("Oak",), ("Oak",), ("-",)])
        self.check_bad(5, "double", with_family, "e", 1, [("Oak",), ("Oak",)])

    def test_with_deals(self):
        book = with_deals(self.book, "d", [("Elm",)])
        self.check_text(book, ("Oak | Elm", "Elm"))
        self.assertTrue(with_deals(deals=(("Elm",),), family="d", book=self.book) == book)
        self.assertEqual((book.many_open, book.deal(1)), (2, ("Elm",)))
        self.check_text(with_deals(self.book, "c", []), ("family c 2 : Oak Elm", "family c 2 :"))

    def test_with_deals_keeps_no_list_that_was_passed(self):
        deals = [("Elm",)]
        book = with_deals(self.book, "d", deals)
        deals.append(("Oak",))
        self.assertEqual(book.deals("d"), [("Elm",)])

    def test_with_deals_of_wrong_values(self):
        for value in NO_LISTS:
            self.check_bad(3, "form", with_deals, "c", value)
            self.check_bad(4, "form", with_deals, "d", value)
        self.check_bad(4, "form", with_deals, "d", [("Oak",), ("Oak", "Elm")])
        self.check_bad(4, "form", with_deals, "d", [["Oak"]])
        self.check_bad(4, "name", with_deals, "d", [("-",), ("Ash",)])
        self.check_bad(4, "empty", with_deals, "d", [("Oak",), ("Oak",), ("-",)])
        self.check_bad(4, "double", with_deals, "d", [("Elm",), ("Elm",)])
        self.check_unknown(UnknownFamily, with_deals, [])
        self.check_unknown(UnknownFamily, with_deals, None)

    def test_without_family(self):
        book = without_family(self.book, "c")
        self.assertEqual(book.text(), "book\nroom Oak 1\nroom Elm 1\nfamily d 1 : Oak | Elm\n"
                         "order Oak : d.1\norder Elm : d.1\nend\n")
        self.assertTrue(without_family(family="c", book=self.book) == book)
        self.assertEqual(without_family(book, "d").text(),
                         "book\nroom Oak 1\nroom Elm 1\norder Oak :\norder Elm :\nend\n")
        self.check_unknown(UnknownFamily, without_family)

    def test_without_family_leaves_names_that_begin_alike(self):
        book = Book([("A", 1)], [("c", 1, []), ("c1", 1, []), ("cc", 2, [])], [["c1.1", "cc.1", "c.1", "cc.2"]])
        self.assertEqual(without_family(book, "c").order("A"), ["c1.1", "cc.1", "cc.2"])

    def test_cut(self):
        self.check_text(cut(self.book, "d", 1), (" | Elm", ""))
        self.check_text(cut(self.book, "d", 0), (" Oak | Elm", ""))
        for many in (2, 3, 999999999):
            self.assertTrue(cut(self.book, "d", many) == self.book)
        self.check_text(cut(many=0, family="c", book=self.book), ("family c 2 : Oak Elm", "family c 2 :"))
        self.assertEqual(cut(self.book, "c", 0).numbers("d"), [0, 1])
        self.check_unknown(UnknownFamily, cut, 0)


class RenamedTest(Changes):
    def test_new_names(self):
        book = renamed(self.book, rooms={"Oak": "Ash"}, families={"c": "e9"})
        self.check_text(book, ("Oak", "Ash"), ("family c", "family e9"), ("c.", "e9."))
        self.assertEqual((book.many_open, book.deal(0)), (3, ("Ash", "Elm")))
        self.assertEqual(book.order("Elm"), ["d.1", "e9.2", "e9.1"])

    def test_names_that_stay(self):
        self.assertTrue(renamed(self.book, rooms={}, families={}) == self.book)
        self.assertTrue(renamed(self.book, rooms={"Oak": "Oak"}, families={"d": "d"}) == self.book)

    def test_renaming_in_a_ring(self):
        book = renamed(self.book, rooms={"Oak": "Elm", "Elm": "Oak"}, families={"c": "d", "d": "c"})
        self.assertEqual(book.text(), "book\nroom Elm 1\nroom Oak 1\nfamily d 2 : Elm Oak\nfamily c 1 : Elm | Oak\n"
                         "order Elm : d.1 c.1 d.2\norder Oak : c.1 d.2 d.1\nend\n")

    def test_names_that_both_kinds_have(self):
        book = Book([("A", 1)], [("A", 1, [("A",)])], [["A.1"]])
        self.assertEqual(renamed(book, rooms={"A": "B"}, families={}).text(),
                         "book\nroom B 1\nfamily A 1 : B\norder B : A.1\nend\n")
        self.assertEqual(renamed(book, rooms={}, families={"A": "B"}).text(),
                         "book\nroom A 1\nfamily B 1 : A\norder A : B.1\nend\n")

    def test_other_keys_count_for_nothing(self):
        rooms = {"-": "Ash", "c": "x y", "c.1": "", "Pine": "Oak"}
        self.assertTrue(renamed(self.book, rooms=rooms, families={"-": "e", "Oak": "?", "c.1": "e.1"}) == self.book)
        book = Book([("A", 1)], [("c", 2, [("A", "-")])], [["c.1"]])
        self.assertTrue(renamed(book, rooms={"-": "A"}, families={"-": "A"}) == book)

    def test_dicts_stay_as_they_were(self):
        rooms, families = {"Oak": "Ash"}, {"c": "e"}
        renamed(self.book, rooms=rooms, families=families)
        self.assertEqual((rooms, families), ({"Oak": "Ash"}, {"c": "e"}))

    def test_wrong_names(self):
        for name in ("", "-", "a b", "1", "c.1", "ABCDEFGHIJKLM", "Elm\n"):
            self.check_bad(2, "form", renamed, rooms={"Elm": name}, families={"c": "?"})
            self.check_bad(4, "form", renamed, rooms={}, families={"d": name})
        self.check_bad(2, "name", renamed, rooms={"Oak": "Elm"}, families={"c": "?"})
        self.check_bad(4, "name", renamed, rooms={}, families={"c": "d"})

    def test_names_are_passed_by_name(self):
        with self.assertRaises(TypeError):
            renamed(self.book, {}, {})
        with self.assertRaises(TypeError):
            renamed(self.book, rooms={})


class PassedTest(Changes):
    def test_what_was_passed_stays_as_it_was(self):
        members, deals = ["c.2", "d.1"], [("Elm",)]
        with_order(self.book, "Oak", members)
        with_deals(self.book, "d", deals)
        with_family(self.book, "e", 1, deals)
        self.assertEqual((members, deals), (["c.2", "d.1"], [("Elm",)]))

    def test_changes_behind_each_other(self):
        book = with_room(Book.empty(), "Oak", 1)
        book = with_family(book, "c", 1, [("Oak",)])
        self.assertEqual(book.many_open, 0)
        book = with_order(book, "Oak", ["c.1"])
        self.assertEqual((book.many_open, book.numbers("c")), (1, [0]))
        book = without_family(with_family(book, "d", 2, [("Oak", "-")]), "c")
        self.assertEqual(book.text(), "book\nroom Oak 1\nfamily d 2 : Oak -\norder Oak :\nend\n")


if __name__ == "__main__":
    unittest.main()
