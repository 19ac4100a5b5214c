"""nearseats.books: open deals, their numbers and the width [5]."""

import unittest

from nearseats.books import Book

from samples import ODD_VALUES, pair_book

TEXT = ("book\nroom Oak 2\nroom Elm 1\nroom Ash 0\n"
        "family c 3 : Oak Oak Oak | Oak Oak - | Elm Elm - | Elm Oak Oak | Ash - -\n"
        "family d 2 : Elm - | - Elm | Oak Elm | - Oak\n"
        "family e 1 : Ash\n"
        "family f 1 : Oak | Elm\n"
        "order Oak : c.1 c.2 c.3 d.2 f.1\n"
        "order Elm : f.1 d.1 c.1 c.2\n"
        "order Ash : c.1 e.1\nend\n")


class OpenDealsTest(unittest.TestCase):
    def setUp(self):
        self.book = Book.read(TEXT)

    def test_deals_that_stay_open(self):
        self.assertEqual(self.book.many_open, 6)
        self.assertEqual([self.book.deal(number) for number in range(6)],
                         [("Oak", "Oak", "-"), ("Elm", "Oak", "Oak"), ("Elm", "-"), ("-", "Oak"), ("Oak",), ("Elm",)])

    def test_deals_fall_away_for_seats(self):
        for deal in (("Oak", "Oak", "Oak"), ("Elm", "Elm", "-"), ("Ash", "-", "-")):
            self.assertIs(self.book.is_open("c", deal), False)
        wider = Book.read(TEXT.replace("room Elm 1", "room Elm 2"))
        self.assertIs(wider.is_open("c", ("Elm", "Elm", "-")), True)

    def test_deals_fall_away_for_orders(self):
        for deal in (("-", "Elm"), ("Oak", "Elm")):
            self.assertIs(self.book.is_open("d", deal), False)
        self.assertIs(self.book.is_open("d", ("-", "Oak")), True)

    def test_deals_that_fall_away_are_still_told(self):
        self.assertEqual(len(self.book.deals("c")), 5)
        self.assertEqual(self.book.deals("e"), [("Ash",)])

    def test_numbers(self):
        self.assertEqual([self.book.numbers(family) for family in "cdef"], [[0, 1], [2, 3], [], [4, 5]])
        self.assertEqual([self.book.family_of(number) for number in range(6)], [0, 0, 1, 1, 3, 3])

    def test_number_of_and_is_open(self):
        for number in range(6):
            family = self.book.family_names()[self.book.family_of(number)]
            deal = self.book.deal(number)
            self.assertEqual(self.book.number_of(family, deal), number)
            self.assertIs(self.book.is_open(family, deal), True)
        self.assertEqual(self.book.number_of(family="f", deal=("Elm",)), 5)
        self.assertIs(self.book.is_open(family="e", deal=("Ash",)), False)

    def test_number_of_other_values(self):
        for family in (*ODD_VALUES, "Oak"):
            for deal in (("Oak",), *ODD_VALUES):
                self.assertIsNone(self.book.number_of(family, deal))
                self.assertIs(self.book.is_open(family, deal), False)
        for deal in (["Oak"], "Oak", ("Oak", "-"), ("Pine",), ("Ash",), (), None, (["Oak"],), {"Oak": 1}, 4, True):
            self.assertIsNone(self.book.number_of("f", deal))
            self.assertIs(self.book.is_open("f", deal), False)

    def test_sent(self):
        self.assertEqual(self.book.sent(1, "Oak"), ["c.2", "c.3"])
        self.assertEqual(self.book.sent(1, "Elm"), ["c.1"])
        self.assertEqual(self.book.sent(1, "Ash"), [])

    def test_members_are_told_by_their_numbers_not_by_the_order_of_the_room(self):
        book = Book.read("book\nroom A 9\nfamily c 10 : A - - - - - - - A A\norder A : c.10 c.9 c.1\nend\n")
        self.assertEqual(book.sent(0, "A"), ["c.1", "c.9", "c.10"])

    def test_width(self):
        self.assertEqual(self.book.width, 3)
        self.assertEqual(pair_book().width, 2)
        self.assertEqual(Book.read(TEXT.replace("Elm Oak Oak", "Oak - -")).width, 2)
        self.assertEqual(Book.read("book\nroom A 1\nfamily c 3 : - A -\norder A : c.2\nend\n").width, 1)

    def test_width_and_numbers_without_an_open_deal(self):
        for text in ("book\nend\n", "book\nroom A 1\nfamily c 3 : A A A\norder A : c.1 c.2 c.3\nend\n",
                     "book\nroom A 1\nfamily c 1 : A\norder A :\nend\n"):
            book = Book.read(text)
            self.assertEqual((book.width, book.many_open), (1, 0))
            self.assertEqual([book.numbers(family) for family in book.family_names()], [[]] * len(book))


if __name__ == "__main__":
    unittest.main()
