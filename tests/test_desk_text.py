"""nearseats.desk: the text of a desk [34]."""

import unittest

from randombooks import random_book
from samples import ODD_VALUES, PAIR, pair_book

from nearseats.books import Book
from nearseats.desk import Desk
from nearseats.errors import BadDesk

# A kept answer with names and deals of no book, and any number of lines of each kind.
STRANGE = ("answer\nseats Pine 3\nseats Oak 0\nseats Pine 12\nout x\ngive y : - -\nout x\ngive z : A B C D E\n"
           "reason x family : -\nreason y room Pine : Oak Oak\nreason x family : -\nend\n")
KEPT = "answer\nseats Oak 2\nseats Elm 1\ngive c : Oak Elm\ngive d : Oak\nreason d family : Elm\nend\n"
TEXT = f"desk\nname pair\n{PAIR}{KEPT}name q\nbook\nend\nname r\n{PAIR}end\n"


class WriteTest(unittest.TestCase):
    def test_written(self):
        desk = Desk()
        self.assertEqual(desk.text(), "desk\nend\n")
        desk.run("open q\nopen b\nroom b Oak 2\ncopy b c\nplace c\ndrop q\nopen q\nplace q\n")
        book = "book\nroom Oak 2\norder Oak :\nend\n"
        self.assertEqual(desk.text(), f"desk\nname b\n{book}name c\n{book}answer\nseats Oak 2\nend\n"
                                      "name q\nbook\nend\nanswer\nend\nend\n")

    def test_there_and_back(self):
        for text in (TEXT, "desk\nend\n", "desk\nname a\nbook\nend\nend\n", f"desk\nname b\n{PAIR}{STRANGE}end\n",
                     f"desk\nname b\n{PAIR}answer\nend\nname answer\nbook\nend\nanswer\nend\nname end\nbook\nend\nend\n",
                     f"desk\nname b\n{PAIR}answer\nseats A 1\nreason x room y : -\nend\nend\n",
                     f"desk\nname b\n{PAIR}answer\nout x\nend\nend\n",
                     f"desk\nname b\n{PAIR}answer\nreason x room y : - z\nend\nend\n"):
            self.assertEqual(Desk.read(text).text(), text)
            self.assertEqual(Desk.read(text=text).many_changes, 0)

    def test_read(self):
        desk = Desk.read(TEXT)
        self.assertEqual((desk.names(), len(desk), repr(desk), desk.many_changes), (["pair", "q", "r"], 3,
                                                                                    "Desk(3 books)", 0))
        self.assertEqual([desk[name] for name in desk.names()], [pair_book(), Book.empty(), pair_book()])
        self.assertEqual([desk.kept(name) for name in desk.names()], [KEPT, None, None])
        with self.assertRaises(BadDesk) as caught:
            desk.run("undo\n")
        self.assertEqual((caught.exception.line, caught.exception.why), (0, "nothing"))
        self.assertEqual(desk.run("check pair\nwhy pair d : Elm\nsettle r\nopen s\nundo\n"),
                         ["taken", "family", "never 6", "done", "done"])
        self.assertEqual(desk.text(), TEXT)

    def test_strange_answers(self):
        desk = Desk.read(f"desk\nname b\n{PAIR}{STRANGE}end\n")
        self.assertEqual((desk.kept("b"), desk["b"]), (STRANGE, pair_book()))
        self.assertEqual(desk.run("check b\nwhy b d : Oak\nplace b\ncheck b\n")[::3], ["unfit 1 name", "taken"])
        self.assertEqual((desk.run("undo\n"), desk.kept("b")), (["done"], STRANGE))

    def test_books(self):
        for seed in range(20):
            book = random_book(seed, rooms=3, families=4, size=3, deals=3, seats=3)
            desk = Desk.read(f"desk\nname b\n{book.text()}end\n")
            desk.run("place b\n")
            again = Desk.read(desk.text())
            self.assertEqual((again["b"], again.kept("b"), again.text()), (book, desk.kept("b"), desk.text()))


class BadTest(unittest.TestCase):
    def check(self, text, line, why):
        with self.assertRaises(BadDesk) as caught:
            Desk.read(text)
        self.assertEqual((caught.exception.line, caught.exception.why, caught.exception.code), (line, why, "BadDesk"),
                         text)

    def test_values_that_are_no_strings(self):
        for value in (*[value for value in ODD_VALUES if not isinstance(value, str)], Desk(), 7):
            self.check(value, 0, "form")

    def test_missing(self):
        lines = TEXT.split("\n")[:-1]
        for at in range(len(lines)):
            self.check("".join(f"{line}\n" for line in lines[:at]), at, "missing")

    def test_line_feeds(self):
        lines = TEXT.split("\n")[:-1]
        for at in range(len(lines)):
            self.check("".join(f"{line}\n" for line in lines[:at]) + lines[at], at, "form")
        self.check(TEXT + "\n", len(lines), "form")
        self.check(TEXT + "end\n", len(lines), "form")
        self.check(TEXT + "desk\nend\n", len(lines), "form")

    def test_other_lines_at_each_place(self):
        lines = TEXT.split("\n")[:-1]
        for at in range(len(lines)):
            for wrong in ("", " ", "desk " if at == 0 else "desk", "x", lines[at] + " ", " " + lines[at], "name", "name 1", "name a b", "names a"):
                self.check("".join(f"{line}\n" for line in [*lines[:at], wrong, *lines[at:]]), at, "form")

    def test_name(self):
        for line, at in (("name q", 17), ("name r", 20)):
            lines = TEXT.split("\n")
            self.assertEqual(lines[at], line)
            self.check(TEXT.replace(f"\n{line}\n", "\nname pair\n"), at, "name")
        self.check("desk\nname a\nbook\nend\nname A\nbook\nend\nname a\nx\n", 7, "name")
        # Names are told by their own lines first, whatever follows.
        self.check("desk\nname a\nbook\nend\nname a\n", 4, "name")

    def test_a_title_must_come(self):
        for line in ("end", "name b", "answer", "desk", "rules", "book "):
            self.check(f"desk\nname a\n{line}\n", 2, "form")
        self.check("desk\nanswer\n", 1, "form")
        self.check("desk\nbook\n", 1, "form")
        self.check("book\nend\n", 0, "form")
        self.check("desk\nname a\nbook\nend\nbook\n", 4, "form")
        self.check("desk\nname a\nbook\nend\nanswer\nend\nanswer\n", 6, "form")

    def test_words_of_books(self):
        for lines, at, why in (("room Oak 1\nroom Oak 1", 1, "name"), ("room Oak 01", 0, "form"),
                               ("room Oak 1\nfamily c 1 : Elm", 1, "name"), ("family c 0 :", 0, "form"),
                               ("room Oak 1\nfamily c 2 : - -", 1, "empty"), ("order Oak :", 0, "form"),
                               ("room Oak 1\nfamily c 1 : Oak | Oak", 1, "double"), ("room Oak 1\nend", 1, "form"),
                               ("room Oak 1\norder Elm :", 1, "name"), ("room Oak 1\norder Oak : c.1", 1, "name"),
                               ("family c 1 :\nfamily c 1 :", 1, "name"), ("answer", 0, "form"), ("name b", 0, "form"),
                               ("room Oak 1\nfamily c 1 :\norder Oak : c.1 c.1", 2, "double")):
            self.check(f"desk\nname a\nbook\n{lines}\n", 3 + at, why)
            self.check(f"desk\nname b\n{PAIR}{STRANGE}name a\nbook\n{lines}\n", 24 + at, why)

    def test_forms_of_a_kept_answer(self):
        for line in ("seats Oak", "seats Oak 01", "seats 1 1", "seats - 1", "seats Oak -1", "give c", "give c :", "give c : ",
                     "give c : 1", "give 1 : Oak", "give c Oak", "out", "out 1", "out c d", "out c ", "reason c : Oak",
                     "reason c family", "reason c family :", "reason c family : ", "reason c families : Oak",
                     "reason c room : Oak", "reason c room 1 : Oak", "reason c room - : Oak", "reason 1 family : Oak",
                     "reason c room Oak Elm : Oak", "reason c family : Oak | Elm", "give c : Oak | Elm", "answer", "book",
                     "room Oak 1", "name b", "order Oak :", "", "end "):
            self.check(f"desk\nname b\nbook\nend\nanswer\n{line}\nend\nend\n", 5, "form")

    def test_groups_of_a_kept_answer(self):
        seats, give, out, reason = "seats A 1", "give x : -", "out x", "reason x family : A"
        for lines, at in (((give, seats), 1), ((out, seats), 1), ((reason, seats), 1), ((reason, give), 1),
                          ((reason, out), 1), ((seats, give, seats), 2), ((seats, out, reason, give), 3),
                          ((seats, reason, reason, seats), 3)):
            told = "".join(f"{line}\n" for line in lines)
            self.check(f"desk\nname b\nbook\nend\nanswer\n{told}end\nend\n", 5 + at, "form")
        for lines in ((out, give, out, give), (seats, seats, reason, reason), (reason,), (give,), (seats,), ()):
            told = "".join(f"{line}\n" for line in lines)
            self.assertEqual(Desk.read(f"desk\nname b\nbook\nend\nanswer\n{told}end\nend\n").kept("b"),
                             f"answer\n{told}end\n")


if __name__ == "__main__":
    unittest.main()
