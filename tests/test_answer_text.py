"""nearseats.answers: the text of an answer [14]."""

import unittest

from nearseats.answers import Answer, reasons_for
from nearseats.books import Book
from nearseats.changes import renamed
from nearseats.errors import BadPaper, InvalidDeals, InvalidSeats
from nearseats.judging import judge

from randombooks import random_assignment, random_book, random_seats
from samples import ODD_VALUES

BOOK = ("book\nroom Oak 1\nroom Elm 2\n"
        "family c 2 : Oak Elm | - Elm | Elm Elm | Oak Oak\nfamily d 1 : Oak | Elm\nfamily Oak 1 :\n"
        "order Oak : d.1 c.1\norder Elm : d.1 c.2 c.1\nend\n")
# The open deals: c 0, 1 and 2, d 3 and 4; the last deal of c falls away.
TEXT = ("answer\nseats Oak 0\nseats Elm 12\ngive c : - Elm\nout d\nout Oak\n"
        "reason c room Oak : Oak Elm\nreason c family : Elm Elm\n"
        "reason d room Oak : Oak\nreason d room Elm : Elm\nend\n")
LINES = TEXT.split("\n")[:-1]


class Texts(unittest.TestCase):
    def setUp(self):
        self.book = Book.read(BOOK)
        self.answer = Answer([0, 12], [1, None, None], {0: "room Oak", 2: "family", 3: "room Oak", 4: "room Elm"})

    def check(self, line, why, text):
        with self.assertRaises(BadPaper) as caught:
            Answer.read(self.book, text)
        self.assertEqual((caught.exception.line, caught.exception.why), (line, why), text)

    def check_line(self, at, why, *lines):
        """Checks the word for the first of some lines that stand in the place of one line."""
        for told in lines:
            self.check(at, why, "".join(f"{line}\n" for line in [*LINES[:at], told, *LINES[at + 1:]]))

    def check_added(self, at, why, *lines):
        """Checks the word for lines that are put ahead of a line."""
        for told in lines:
            self.check(at, why, "".join(f"{line}\n" for line in [*LINES[:at], told, *LINES[at:]]))


class WrittenTest(Texts):
    def test_there_and_back(self):
        self.assertEqual(self.answer.text(self.book), TEXT)
        self.assertEqual(self.answer.text(book=self.book), TEXT)
        read = Answer.read(self.book, TEXT)
        self.assertTrue(read == self.answer)
        self.assertEqual((read.seats(), read.deals()), ([0, 12], [1, None, None]))
        self.assertEqual(list(read.reasons().items()),
                         [(0, "room Oak"), (2, "family"), (3, "room Oak"), (4, "room Elm")])
        self.assertTrue(Answer.read(text=TEXT, book=self.book) == self.answer)

    def test_the_empty_book(self):
        self.assertEqual(Answer([], [], {}).text(Book.empty()), "answer\nend\n")
        self.assertTrue(Answer.read(Book.empty(), "answer\nend\n") == Answer([], [], {}))

    def test_a_book_without_families(self):
        book = Book.read("book\nroom Oak 1\norder Oak :\nend\n")
        self.assertTrue(Answer.read(book, "answer\nseats Oak 3\nend\n") == Answer([3], [], {}))
        for text in ("answer\nend\n", "answer\nreason c family : Oak\n"):
            with self.assertRaises(BadPaper) as caught:
                Answer.read(book, text)
            self.assertEqual((caught.exception.line, caught.exception.why), (1, "form"))

    def test_reasons_in_any_order(self):
        text = "".join(f"{line}\n" for line in [*LINES[:6], LINES[9], LINES[7], LINES[6], LINES[8], LINES[10]])
        read = Answer.read(self.book, text)
        self.assertTrue(read == self.answer)
        self.assertEqual(list(read.reasons()), [0, 2, 3, 4])
        self.assertEqual(read.text(self.book), TEXT)

    def test_reasons_of_given_deals(self):
        answer = Answer([1, 2], [1, None, None], {1: "family", 0: "room Elm"})
        text = answer.text(self.book)
        self.assertEqual(text.split("\n")[6:-2], ["reason c room Elm : Oak Elm", "reason c family : - Elm"])
        self.assertTrue(Answer.read(self.book, text) == answer)

    def test_a_reason_may_name_a_room_to_which_the_deal_sends_no_member(self):
        answer = Answer([1, 2], [None, None, None], {1: "room Oak"})
        self.assertEqual(answer.text(self.book).split("\n")[6], "reason c room Oak : - Elm")
        self.assertTrue(Answer.read(self.book, answer.text(self.book)) == answer)

    def test_reasons_that_are_left_out(self):
        reasons = {0: "Family", 1: None, 2: "room Pine", 3: "room", 4: ["room Oak"], 5: "family", -1: "family",
                   "2": "family", (3,): "room Oak", None: "family", 10 ** 30: "room Oak"}
        plain = Answer([0, 12], [1, None, None], {}).text(self.book)
        self.assertEqual(Answer([0, 12], [1, None, None], reasons).text(self.book), plain)
        for value in ("room Oak ", " family", "family ", "room  Oak", "Oak", "room oak", "room c", "room ", "",
                      "room Oak\n", "Room Oak", "room:Oak", 0, True, ("family",), {"room Oak": 1}, self.book):
            self.assertEqual(Answer([0, 12], [1, None, None], {0: value, 4: value}).text(self.book), plain)
        for value in (None, True, 4, "family", ["family"], ("family",), self.book):
            self.assertEqual(Answer([0, 12], [1, None, None], value).text(self.book), plain)

    def test_wrong_seats_come_ahead_of_wrong_deals(self):
        for value in (None, "12", 1, True, {0: 1}, [], [1], [1, 2, 3], (), self.book):
            for deals in ([1, None, None], None, [9, 9, 9]):
                with self.assertRaises(InvalidSeats) as caught:
                    Answer(value, deals, {}).text(self.book)
                self.assertEqual(caught.exception.at, -1)
        for value in (None, True, -1, "1", [1], self.book):
            for at in (0, 1):
                with self.assertRaises(InvalidSeats) as caught:
                    Answer([value if k >= at else 1 for k in (0, 1)], None, {}).text(self.book)
                self.assertEqual(caught.exception.at, at)

    def test_wrong_deals(self):
        for value in (None, "1", 1, {0: 1}, [], [1], [1, 3, None, None], self.book):
            self.check_deals(-1, value)
        for value in (True, False, -1, 0, 2, 5, "3", (3,), self.book):
            self.check_deals(1, [1, value, value])
        self.check_deals(0, [3, None, None])
        self.check_deals(2, [2, 3, 0])

    def check_deals(self, at, deals):
        with self.assertRaises(InvalidDeals) as caught:
            Answer([1, 2], deals, {}).text(self.book)
        self.assertEqual(caught.exception.at, at)

    def test_answers_by_chance(self):
        for seed in range(60):
            book = random_book(seed, rooms=3, families=4, size=3, deals=4, seats=3)
            assignment = random_assignment(seed, book)
            seats = random_seats(seed, book)
            answer = Answer(seats, assignment.deals(), reasons_for(assignment, seats=seats))
            self.assertTrue(Answer.read(book, answer.text(book)) == answer)

    def test_other_names(self):
        # The last fact of [31].
        taken = 0
        for seed in range(60):
            book = random_book(seed, rooms=2, families=3)
            assignment = random_assignment(seed, book)
            seats = assignment.counts()
            answer = Answer(seats, assignment.deals(), reasons_for(assignment, seats=seats))
            other = renamed(book, rooms={"R0": "Oak"}, families={"f1": "Elm"})
            text = answer.text(book).replace("R0", "Oak").replace("f1", "Elm")
            self.assertEqual(judge(book, answer), judge(other, Answer.read(other, text)))
            taken += judge(book, answer) is None
        self.assertGreater(taken, 5)


class FormTest(Texts):
    def test_values_that_are_no_strings(self):
        for value in (*ODD_VALUES, self.answer, [TEXT], 3):
            if not isinstance(value, str):
                self.check(0, "form", value)

    def test_the_title(self):
        self.check(0, "form", "book\n" + TEXT)
        self.check_line(0, "form", "", "Answer", "answer ", " answer", "answers", "end")
        self.check(0, "form", "answer")
        self.check(0, "form", "\n" + TEXT)

    def test_seats(self):
        self.check_line(1, "form", "", "seats", "seats Oak", "seats Oak 01", "seats Oak -1", "seats Oak +1",
                        "seats Oak x", "seats Oak 1 ", "seats Oak  1", " seats Oak 1", "seats Oak 1 2", "seats Oak : 1",
                        "seat Oak 1", "seats 1 1", "seats Oak.1 1", "seats - 1", "seats Oak 1234567890",
                        "seats Oak1234567890 1",
                        "room Oak 1", "seats Oak 1\t")

    def test_give_and_out(self):
        for at in (3, 4):
            name = "c" if at == 3 else "d"
            self.check_line(at, "form", "", "give", f"give {name}", f"give {name} :", f"give {name} : ",
                            f"give {name} Oak", f"give {name} : Oak  Elm", f"give {name} : Oak ",
                            f"give {name}  : Oak", f"give {name} : Oak.1",
                            f"give {name} : 1", f"give {name} : Oak | Elm", f"give {name} : --", f"give {name}.1 : Oak",
                            f"gives {name} : Oak", f"out {name} ", f"out  {name}", "out", f"out {name} :",
                            f"out {name}.1", f"out : {name}", "out -", f"outs {name}", f"give {name} : Oak :",
                            f" out {name}")

    def test_reason(self):
        self.check_line(6, "form", "", "reason", "reason c", "reason c family", "reason c family :",
                        "reason c family : ", "reason c room : Oak Elm", "reason c room Oak", "reason c room Oak :",
                        "reason c room - : Oak Elm",
                        "reason c room Oak Elm : Oak Elm", "reason c family Oak : Oak Elm", "reason c : Oak Elm",
                        "reason c none : Oak Elm", "reason  c family : Oak Elm", "reason c family : Oak  Elm",
                        "reason c family : Oak Elm ", "reason c.1 family : Oak Elm", "reason c family : Oak Elm : Oak",
                        "reason c family : Oak | Elm", "reason c family: Oak Elm", "reason c Family : Oak Elm",
                        "reason c room Oak.1 : Oak Elm", "reason family : Oak Elm", "reason c room  Oak : Oak Elm",
                        "reasons c family : Oak Elm", "reason c family  : Oak Elm", "reason c family :  Oak Elm")

    def test_the_end(self):
        self.check_line(10, "form", "", "End", "end ", " end", "end end", "ends")
        self.check(11, "form", TEXT + "\n")
        self.check(11, "form", TEXT + "end\n")
        self.check(11, "form", TEXT + "x")
        self.check(11, "form", TEXT + "reason c family : - Elm\n")

    def test_lines_that_lack_their_line_feed(self):
        for at, line in enumerate(LINES):
            self.check(at, "form", "".join(f"{told}\n" for told in LINES[:at]) + line)

    def test_lines_that_stand_too_early(self):
        self.check_line(1, "form", "give c : - Elm", "out c", "reason c family : - Elm", "end")
        self.check_line(2, "form", "give c : - Elm", "out c", "reason c family : - Elm", "end", "out x", "give x : y")
        self.check_line(3, "form", "reason c family : - Elm", "end", "reason x family : - Elm")
        self.check_line(5, "form", "reason c family : - Elm", "end")

    def test_lines_too_many(self):
        self.check_added(3, "form", "seats Oak 1", "seats Elm 1", "seats Pine 1")
        self.check_added(4, "form", "seats Elm 1")
        self.check_added(6, "form", "give c : - Elm", "out Oak", "out x", "give x : y", "seats Oak 1")
        self.check_added(8, "form", "give Oak : Oak", "out Oak", "seats Elm 1")
        self.check_added(3, "form", "answer")


class WordsTest(Texts):
    def test_name(self):
        self.check_line(1, "name", "seats Elm 1", "seats Pine 1", "seats c 1", "seats oak 1")
        self.check_line(2, "name", "seats Oak 1", "seats Pine 1")
        self.check_line(3, "name", "give d : Oak", "out d", "out Pine", "give Pine : - Elm", "give Elm : - Elm")
        self.check_line(4, "name", "give c : - Elm", "out c", "out Oak", "give Oak : Pine Pine")
        self.check_line(6, "name", "reason x family : - Elm", "reason Elm family : - Elm", "reason c room Pine : - Elm",
                        "reason c room c : - Elm", "reason x room Oak : - Elm")

    def test_deal(self):
        self.check_line(3, "deal", "give c : Elm Oak", "give c : Oak", "give c : - - Elm", "give c : - -",
                        "give c : Oak Oak", "give c : Pine Elm", "give c : -")
        self.check_line(4, "deal", "give d : -", "give d : Pine", "give d : Oak Elm")
        self.check_line(5, "deal", "give Oak : Oak", "give Oak : -")
        self.check_line(6, "deal", "reason c family : Elm Oak", "reason c family : Oak", "reason c room Oak : Oak Oak",
                        "reason c room Oak : - -", "reason c family : Pine Pine", "reason Oak family : Oak",
                        "reason c room Elm : - - Elm")

    def test_double(self):
        self.check_line(7, "double", "reason c room Oak : Oak Elm", "reason c family : Oak Elm",
                        "reason c room Elm : Oak Elm")
        self.check_line(9, "double", "reason d family : Oak", "reason c family : Elm Elm")

    def test_missing(self):
        for at in range(1, len(LINES)):
            self.check(at, "missing", "".join(f"{line}\n" for line in LINES[:at]))
        self.check(0, "missing", "")

    def test_two_faults_in_one_text(self):
        text = TEXT.replace("seats Elm 12", "seats Pine 1").replace("seats Oak 0", "seats Oak")
        self.check(1, "form", text)
        self.check(1, "name", TEXT.replace("seats Oak 0", "seats Elm 0").replace("out d", "give d : -"))
        self.check(4, "deal", TEXT.replace("out d", "give d : -").replace("reason c family", "reason x family"))
        self.check(7, "name", TEXT.replace("reason c family", "reason x family").replace("end\n", ""))

    def test_two_faults_in_one_line(self):
        # The first of the words that applies.
        self.check_line(6, "form", "reason x family : - Elm ")
        self.check_line(6, "name", "reason x family : Pine", "reason c room Pine : Pine")
        self.check_line(9, "name", "reason d room Pine : Oak")
        self.check_line(3, "name", "give x : Pine")


if __name__ == "__main__":
    unittest.main()
