"""nearseats.books: the text of a book [4]."""

import random
import unittest

from nearseats.books import Book
from nearseats.errors import BadBook

from samples import ODD_VALUES, PAIR, pair_book

# The lines of a text into which wrong lines are put.
LINES = ["book", "room Oak 1", "room Elm 2", "family c 2 : Oak Elm | Elm -", "family d 1 : Oak",
         "order Oak : c.1 d.1", "order Elm : c.2 c.1", "end"]


def text_of(lines):
    return "".join(line + "\n" for line in lines)


class TextFaults(unittest.TestCase):
    def check(self, line, why, text):
        with self.assertRaises(BadBook) as caught:
            Book.read(text)
        self.assertEqual((caught.exception.line, caught.exception.why), (line, why), text)

    def check_line(self, at, why, *lines):
        for line in lines:
            self.check(at, why, text_of([*LINES[:at], line, *LINES[at + 1:]]))


class ThereAndBackTest(unittest.TestCase):
    def test_texts(self):
        for text in (PAIR, text_of(LINES), "book\nend\n", "book\nroom A 0\norder A :\nend\n",
                     "book\nfamily c 1 :\nfamily d 9 :\nend\n",
                     "book\nroom A 999999999\nfamily A 1 : A\norder A : A.1\nend\n"):
            book = Book.read(text)
            self.assertEqual(book.text(), text)
            self.assertTrue(Book.read(text=book.text()) == book)

    def test_what_is_read(self):
        book = Book.read(text_of(LINES))
        same = Book([("Oak", 1), ("Elm", 2)], [("c", 2, [("Oak", "Elm"), ("Elm", "-")]), ("d", 1, [("Oak",)])],
                    [["c.1", "d.1"], ["c.2", "c.1"]])
        self.assertTrue(book == same)
        self.assertEqual(same.text(), text_of(LINES))

    def test_changed_texts_are_refused_or_read_in_this_form_only(self):
        source = random.Random(7)
        signs = "book room family order end Oak Elm c d .|:-0129\n"
        for text in (PAIR, text_of(LINES)):
            for _ in range(3000):
                at = source.randrange(len(text))
                many = source.randrange(3)
                changed = text[:at] + "".join(source.choices(signs, k=source.randrange(2))) + text[at + many:]
                try:
                    self.assertEqual(Book.read(changed).text(), changed)
                except BadBook as fault:
                    self.assertIn(fault.why, ("form", "name", "empty", "double", "missing"))
                    self.assertTrue(0 <= fault.line <= changed.count("\n"))


class FormTest(TextFaults):
    def test_values_that_are_no_strings(self):
        for value in (*(value for value in ODD_VALUES if not isinstance(value, str)), pair_book()):
            self.check(0, "form", value)

    def test_first_line(self):
        self.check_line(0, "form", "", "Book", "book ", " book", "book 1", "end", "room Oak 1", "rules")

    def test_room(self):
        self.check_line(1, "form", "", "room", "room Oak", "room Oak 1 ", " room Oak 1", "room  Oak 1", "room Oak  1",
                        "room 1 Oak", "room Oak 1 1", "room Oak -1", "room Oak +1", "room Oak 01", "room Oak 00",
                        "room Oak one", "room Oak 1000000000", "room - 1", "room Oak.1 1", "Room Oak 1",
                        "room ABCDEFGHIJKLM 1", "book", "road Oak Elm 1", "room: Oak 1")

    def test_family(self):
        self.check_line(4, "form", "", "family", "family d", "family d 1", "family d 1 : ", "family d 1:",
                        "family d 1 Oak", "family d : Oak", "family d 0 :", "family d 0 : Oak", "family d 01 : Oak",
                        "family d 1000000000 :", "family d -1 : Oak", "family 1 d : Oak", "family d 1 : Oak Elm",
                        "family d 2 : Oak", "family d 1 : Oak |", "family d 1 : | Oak", "family d 1 : Oak | | Elm",
                        "family d 1 : Oak || Elm", "family d 1 : Oak|Elm", "family d 1 : Oak  | Elm",
                        "family d 1 : Oak |  Elm", "family d 1 :  Oak", "family d 1 : Oak ", "family d 1 : --",
                        "family d 1 : 1", "family d 1 : |", "family d 2 : Oak |", "family d 1 : d.1",
                        "family d 1 by any", "room Ash 1", "member d.1 : Oak")

    def test_order(self):
        self.check_line(5, "form", "order", "order Oak", "order Oak c.1", "order : c.1", "order Oak :c.1",
                        "order Oak : ", "order Oak : c.1 ", "order Oak :  c.1", "order Oak : c.1  d.1", "order - : c.1",
                        "order Oak : c", "order Oak : c.0", "order Oak : c.01", "order Oak : c.1000000000",
                        "order Oak : c.1, d.1", "order Oak : c.1 | d.1", "order Oak : -", "points Oak : c.1 2",
                        "room Ash 1", "book")

    def test_families_and_rooms_behind_orders(self):
        self.check_line(6, "form", "family e 1 :", "room Ash 1", "book")
        for line in ("room Elm 1", "family c 1 :"):
            self.check(4, "form", text_of(["book", "room Oak 1", "room Ash 1", "order Oak :", line]))

    def test_end(self):
        self.check_line(7, "form", "", "End", "end ", " end", "order Oak : c.1", "order Ash :", "family e 1 :",
                        "room Ash 1")

    def test_exactly_as_many_orders_as_rooms(self):
        self.check_line(5, "form", "end")
        self.check_line(6, "form", "end")
        self.check(7, "form", text_of([*LINES[:7], LINES[6], "end"]))
        self.check(1, "form", "book\norder Oak :\nend\n")
        self.check(2, "form", "book\nroom Oak 1\nend\n")

    def test_a_line_without_its_line_feed(self):
        for many in range(1, len(LINES) + 1):
            self.check(many - 1, "form", text_of(LINES[:many])[:-1])
        self.check(4, "form", text_of(LINES[:4]) + "family c 1 : -")
        self.check(2, "form", "book\nend\n ")

    def test_behind_end(self):
        for line in ("", "end", "book", "room Ash 1", "order Oak :", "family e 1 :"):
            self.check(8, "form", text_of([*LINES, line]))
            self.check(2, "form", text_of(["book", "end", line, "x"]))


class OtherWordsTest(TextFaults):
    def test_name(self):
        self.check_line(2, "name", "room Oak 1", "room Oak 2")
        self.check_line(4, "name", "family c 1 : Oak", "family c 1 :", "family d 1 : Ash", "family d 1 : Oak | c",
                        "family d 2 : - Ash")
        self.check_line(5, "name", "order Elm : c.1 d.1", "order Ash :", "order c : c.1", "order Oak : c.1 e.1",
                        "order Oak : c.3", "order Oak : Oak.1")
        self.check_line(6, "name", "order Oak : c.1", "order oak :")

    def test_empty(self):
        self.check_line(4, "empty", "family d 1 : -", "family d 1 : Oak | -", "family d 3 : - - - | Oak - -")

    def test_double(self):
        self.check_line(4, "double", "family d 1 : Oak | Elm | Oak", "family d 2 : Oak - | Oak -")
        self.check_line(5, "double", "order Oak : c.1 d.1 c.1", "order Oak : d.1 d.1")

    def test_the_first_word_that_applies(self):
        self.check_line(2, "form", "room Oak 01")
        self.check_line(4, "form", "family c 1 : Ash | - | - -", "family c 01 : -")
        self.check_line(4, "name", "family c 1 : - | -", "family d 1 : Ash | - | -")
        self.check_line(4, "empty", "family d 1 : Oak | Oak | -", "family d 1 : - | -")
        self.check_line(5, "form", "order Elm : c.1 c.1 e.0", "order Elm : d.1 d.1 -")
        self.check_line(5, "name", "order Elm : c.1 c.1", "order Oak : c.1 c.1 e.1")

    def test_missing(self):
        for many in range(len(LINES)):
            self.check(many, "missing", text_of(LINES[:many]))
        self.check(0, "missing", "")
        self.check(1, "missing", "book\n")

    def test_two_faults_in_one_text(self):
        self.check(2, "name", text_of(["book", "room Oak 1", "room Oak 1", "x"]))
        self.check(2, "form", text_of(["book", "room Oak 1", "x", "room Oak 1"]))
        self.check(4, "empty", text_of([*LINES[:4], "family d 1 : -", "order Oak : c.1 c.1", LINES[6]]))
        self.check(5, "double", text_of([*LINES[:5], "order Oak : c.1 c.1"]))
        self.check(0, "form", "end")


if __name__ == "__main__":
    unittest.main()
