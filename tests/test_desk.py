"""nearseats.desk: scripts, their outcomes, and what is taken back [32] [33]."""

import random
import unittest

from randombooks import random_book
from samples import ODD_VALUES, PAIR, pair_book

from nearseats.answers import Answer
from nearseats.assignments import Assignment
from nearseats.books import Book
from nearseats.changes import with_deals, with_family, with_order, with_room, with_seats, without_family
from nearseats.desk import Desk
from nearseats.errors import BadDesk, UnknownBook
from nearseats.judging import judge
from nearseats.placing import place
from nearseats.settling import settle
from nearseats.trees import leaves
from nearseats.tries import Try

PAIR_SCRIPT = ("open pair\nroom pair Oak 1\nroom pair Elm 1\nfamily pair c 2 : Oak Elm\nfamily pair d 1 : Oak | Elm\n"
               "order pair Oak : c.1 d.1 c.2\norder pair Elm : d.1 c.2 c.1\n")


def pair_desk():
    desk = Desk()
    desk.run(PAIR_SCRIPT)
    return desk


def book_script(name, book):
    """A script that makes a book under a name."""
    lines = [f"open {name}"]
    for line in book.text().split("\n")[1:-2]:
        kind, rest = line.split(" ", 1)
        lines.append(f"{kind} {name} {rest}")
    return "".join(f"{line}\n" for line in lines)


def desk_with(book, kept=None):
    """A desk with a book under the name b, and a kept answer."""
    return Desk.read(f"desk\nname b\n{book.text()}{kept or ''}end\n")


def state(desk):
    return (desk.names(), [desk[name].text() for name in desk.names()], [desk.kept(name) for name in desk.names()],
            desk.many_changes, len(desk), repr(desk), desk.text())


def all_states(desk):
    """The states of a desk, as one line after the other is taken back."""
    twin = desk.twin()
    found = [state(twin)]
    while twin.many_changes:
        twin.run("undo\n")
        found.append(state(twin))
    return found


class ExampleTest(unittest.TestCase):
    def test_examples_of_the_document(self):
        outcomes = Desk().run("open day\nroom day Oak 1\nfamily day c 1 : Oak\nfamily day d 1 : Oak\n"
                              "order day Oak : d.1 c.1\nplace day\nwhy day c : Oak\ngo day d\ncheck day\nsettle day\n")
        self.assertEqual(outcomes, ["done"] * 5 + ["answer\nseats Oak 1\nout c\ngive d : Oak\nreason c room Oak : Oak\n"
                                                   "end\n", "room Oak", "done", "unfit 3 form", "stable 0"])
        with self.assertRaises(BadDesk) as caught:
            Desk().run("open day\nroom day Oak 1\nfamily day c 1 : Elm\n")
        self.assertEqual((caught.exception.line, caught.exception.why, caught.exception.code), (2, "name", "BadDesk"))


class KeepTest(unittest.TestCase):
    def test_empty(self):
        desk = Desk()
        self.assertEqual(state(desk), ([], [], [], 0, 0, "Desk(0 books)", "desk\nend\n"))
        self.assertIs(bool(desk), True)
        self.assertEqual((desk.run(""), desk.run(script=""), desk.trial("")), ([], [], []))

    def test_books_and_names(self):
        desk = Desk()
        desk.run("open b\nopen a\nopen c\nopen A1\n")
        self.assertEqual((desk.names(), len(desk), repr(desk), bool(desk)), (["b", "a", "c", "A1"], 4, "Desk(4 books)",
                                                                              True))
        desk.run("drop a\nopen a\n")
        self.assertEqual(desk.names(), ["b", "c", "A1", "a"])
        self.assertEqual(repr(pair_desk()), "Desk(1 books)")
        self.assertEqual((desk["b"], pair_desk()["pair"]), (Book.empty(), pair_book()))

    def test_unknown_book(self):
        for value in (*ODD_VALUES, "pai", "Pair", "pair ", ["pair"], ("pair",), {"pair": 1}):
            for ask in (lambda: pair_desk()[value], lambda: pair_desk().kept(value), lambda: pair_desk().kept(name=value)):
                with self.assertRaises(UnknownBook) as caught:
                    ask()
                self.assertEqual((caught.exception.value, caught.exception.code), (value, "UnknownBook"))
            self.assertIs(value in pair_desk(), False)
        self.assertIs("pair" in pair_desk(), True)
        self.assertIs("pair" in Desk(), False)

    def test_told_names_may_be_changed(self):
        desk = pair_desk()
        desk.names().clear()
        outcomes = desk.run("show pair\n")
        outcomes.clear()
        self.assertEqual((desk.names(), desk.run("show pair\n")), (["pair"], [PAIR]))

    def test_books_that_were_told_stay(self):
        desk = pair_desk()
        book = desk["pair"]
        desk.run("seats pair Oak 5\ngo pair c\nroom pair Ash 2\n")
        self.assertEqual((book, desk["pair"] == book), (pair_book(), False))


class ChangingTest(unittest.TestCase):
    def check(self, line, book):
        """A line that changes the book pair of the sample into another one."""
        desk = pair_desk()
        many = desk.many_changes
        self.assertEqual((desk.run(line + "\n"), desk["pair"], desk.kept("pair")), (["done"], book, None))
        self.assertEqual((desk.many_changes, desk.run("undo\n"), desk["pair"]), (many + 1, ["done"], pair_book()))
        self.assertEqual(desk.many_changes, many)

    def test_books(self):
        pair = pair_book()
        for line, book in (("room pair Ash 3", with_room(pair, "Ash", 3)), ("room pair c 0", with_room(pair, "c", 0)),
                           ("seats pair Elm 0", with_seats(pair, "Elm", 0)),
                           ("order pair Oak : c.2", with_order(pair, "Oak", ["c.2"])),
                           ("order pair Elm :", with_order(pair, "Elm", [])),
                           ("family pair e 1 :", with_family(pair, "e", 1, [])),
                           ("family pair Oak 3 : - Elm Oak | Elm - -",
                            with_family(pair, "Oak", 3, [("-", "Elm", "Oak"), ("Elm", "-", "-")])),
                           ("list pair c :", with_deals(pair, "c", [])),
                           ("list pair c : - Elm | Oak Oak", with_deals(pair, "c", [("-", "Elm"), ("Oak", "Oak")])),
                           ("go pair c", without_family(pair, "c")), ("go pair d", without_family(pair, "d"))):
            self.check(line, book)

    def test_lines_that_leave_everything_as_it_was(self):
        for line in ("seats pair Elm 1", "order pair Oak : c.1 d.1 c.2", "list pair d : Oak | Elm"):
            self.check(line, pair_book())

    def test_open_copy_and_drop(self):
        desk = pair_desk()
        answer = desk.run("place pair\n")[0]
        self.assertEqual(desk.run("copy pair other\nopen new\ncopy new last\n"), ["done"] * 3)
        self.assertEqual((desk.names(), desk["other"], desk.kept("other")), (["pair", "other", "new", "last"],
                                                                             pair_book(), answer))
        self.assertEqual((desk["new"], desk.kept("new"), desk["last"]), (Book.empty(), None, Book.empty()))
        self.assertEqual(desk.run("drop pair\nseats other Oak 2\n"), ["done"] * 2)
        self.assertEqual((desk.names(), desk["other"]), (["other", "new", "last"], with_seats(pair_book(), "Oak", 2)))
        self.assertEqual(desk.run("undo\nundo\nseats pair Elm 3\n"), ["done"] * 3)
        self.assertEqual((desk.names(), desk.kept("pair")), (["pair", "other", "new", "last"], answer))
        self.assertEqual((desk["other"], desk["pair"]), (pair_book(), with_seats(pair_book(), "Elm", 3)))

    def test_place(self):
        desk = pair_desk()
        text = place(pair_book()).text(pair_book())
        self.assertEqual((desk.run("place pair\n"), desk.kept("pair"), desk["pair"]), ([text], text, pair_book()))
        self.assertEqual(desk.run("seats pair Oak 3\nplace pair\nplace pair\n")[1], desk.kept("pair"))
        self.assertNotEqual(desk.kept("pair"), text)
        self.assertEqual((desk.run("undo\nundo\n"), desk.kept("pair")), (["done"] * 2, text))
        self.assertEqual((desk.run("undo\nundo\n"), desk.kept("pair")), (["done"] * 2, None))
        self.assertEqual(Desk().run("open b\nplace b\n"), ["done", "answer\nend\n"])

    def test_kept_answers_stay_when_the_book_changes(self):
        desk = pair_desk()
        text = desk.run("place pair\n")[0]
        desk.run("room pair Ash 2\nseats pair Oak 7\ngo pair c\nfamily pair c 1 :\nlist pair d : Elm\norder pair Oak :\n")
        self.assertEqual(desk.kept("pair"), text)

    def test_scripts_that_make_books(self):
        for seed in range(20):
            book = random_book(seed, rooms=3, families=4, size=3, deals=3, seats=3)
            desk = Desk()
            script = book_script("b", book)
            self.assertEqual(desk.run(script), ["done"] * script.count("\n"))
            self.assertEqual((desk["b"], desk.many_changes), (book, script.count("\n")))


class UndoTest(unittest.TestCase):
    def test_lines_of_earlier_scripts(self):
        desk = pair_desk()
        desk.run("place pair\n")
        desk.run("copy pair q\nundo\n")
        self.assertEqual((desk.names(), desk.many_changes), (["pair"], 8))
        states = all_states(desk)
        self.assertEqual(len(states), 9)
        self.assertEqual(states[-1], state(Desk()))
        for at in range(8):
            self.assertEqual(state(desk), states[at])
            self.assertEqual(desk.run("undo\n"), ["done"])
        with self.assertRaises(BadDesk) as caught:
            desk.run("undo\n")
        self.assertEqual((caught.exception.line, caught.exception.why), (0, "nothing"))

    def test_other_lines_cannot_be_taken_back(self):
        desk = pair_desk()
        before = state(desk)
        desk.run("show pair\ncheck pair\nwhy pair d : Oak\nsettle pair\ntry pair turn\n")
        self.assertEqual(state(desk), before)
        desk.run("undo\n")
        self.assertEqual(desk["pair"], with_order(pair_book(), "Elm", []))

    def test_undo_within_a_script(self):
        desk = Desk()
        self.assertEqual(desk.run("open a\nopen b\nundo\nopen c\nundo\nundo\nopen d\n"), ["done"] * 7)
        self.assertEqual((desk.names(), desk.many_changes), (["d"], 1))

    def test_by_turns(self):
        chance = random.Random(4)
        desk = pair_desk()
        past = all_states(desk)[::-1]
        lines = ["seats pair Oak 0", "seats pair Oak 2", "place pair", "place pair", "copy pair q", "drop q", "go q c",
                 "list pair d : Elm", "open q", "family pair e 1 : Oak"]
        for _ in range(300):
            if chance.random() < 0.4:
                if len(past) > 1:
                    self.assertEqual(desk.run("undo\n"), ["done"])
                    past.pop()
            else:
                try:
                    desk.run(chance.choice(lines) + "\n")
                    past.append(state(desk))
                except BadDesk as wrong:
                    self.assertEqual((wrong.line, wrong.why), (0, "name"))
            self.assertEqual((state(desk), desk.many_changes), (past[-1], len(past) - 1))
            if chance.random() < 0.2:
                elder, desk = desk, desk.twin()
                elder.run("open zzz\n")
        self.assertEqual(all_states(desk), past[::-1])


class OutcomeTest(unittest.TestCase):
    def test_show(self):
        self.assertEqual(pair_desk().run("show pair\n"), [PAIR])
        self.assertEqual(Desk().run("open b\nshow b\n"), ["done", "book\nend\n"])

    def test_settle(self):
        self.assertEqual(pair_desk().run("settle pair\nseats pair Oak 2\nsettle pair\ngo pair c\nsettle pair\n"),
                         ["never 6", "done", "stable 0 1", "done", "stable 0"])
        self.assertEqual(pair_desk().run("list pair c :\nlist pair d :\nsettle pair\n")[2], "stable - -")
        self.assertEqual(Desk().run("open b\nsettle b\n")[1], "stable")
        for seed in (0, 5, 118, 196, 323, 580):
            book = random_book(seed, rooms=3, families=4, size=3, deals=3, seats=2)
            told = settle(book)
            words = ["stable", *["-" if deal is None else str(deal) for deal in told.assignment.deals()]] if told else [
                "never", str(leaves(told.tree))]
            self.assertEqual(desk_with(book).run("settle b\n"), [" ".join(words)])

    def test_try(self):
        self.assertEqual(pair_desk().run("try pair lowest\nseats pair Oak 2\ntry pair lowest\n"),
                         ["ring 1 3", "done", "rest 2"])
        self.assertEqual(Desk().run("open b\ntry b turn\n")[1], "rest 0")
        kinds = set()
        for seed in (17, 34, 98, 205, 263):
            book = random_book(seed, rooms=3, families=5, size=3, deals=3, seats=2)
            for order in ("lowest", "highest", "turn"):
                attempt = Try(Assignment.empty(book), order=order)
                attempt.run()
                told = f"rest {attempt.many_steps}" if attempt.rests else "ring {} {}".format(*attempt.ring)
                self.assertEqual(desk_with(book).run(f"try b {order}\n"), [told])
                kinds.add((order, attempt.rests))
        self.assertEqual(len(kinds), 6)

    def test_check(self):
        desk = pair_desk()
        self.assertEqual(desk.run("check pair\nplace pair\ncheck pair\n")[::2], ["none", "taken"])
        good = "answer\nseats Oak 2\nseats Elm 1\ngive c : Oak Elm\ngive d : Oak\nreason d family : Elm\nend\n"
        for kept, told in ((good, "taken"), (good.replace("reason d family : Elm\n", ""), "fault 2 missing"),
                           (good.replace("Oak 2", "Oak 1"), "fault 0 over"), (good.replace("Elm 1", "Elm 0"), "fault 1 over"),
                           (good.replace("family", "room Elm"), "fault 2 better"),
                           (good.replace("family", "room Oak"), "fault 2 reason"),
                           (good.replace("Elm 1", "Elm 2").replace("family", "room Elm"), "fault 2 full"),
                           (good.replace("give d : Oak\n", "out d\n").replace("reason d family", "reason d family : Oak\n"
                                                                              "reason d family"), "fault 1 family"),
                           (good.replace("seats Elm 1\n", ""), "unfit 2 form"), ("answer\nend\n", "unfit 1 form"),
                           (good.replace("give c", "give e"), "unfit 3 name"),
                           (good.replace("d : Oak", "d : -"), "unfit 4 deal"),
                           (good.replace("end", "reason d family : Elm\nend"), "unfit 6 double")):
            self.assertEqual(desk_with(pair_book(), kept).run("check b\n"), [told])
            if not told.startswith("unfit"):
                fault = judge(pair_book(), Answer.read(pair_book(), kept))
                self.assertEqual(told, "taken" if fault is None else f"fault {fault.at} {fault.why}")

    def test_check_of_the_present_book(self):
        desk = pair_desk()
        desk.run("place pair\n")
        for line, told in (("seats pair Oak 9", "taken"), ("seats pair Elm 0", "unfit 3 deal"), ("go pair c", "unfit 3 name"),
                           ("room pair Ash 1", "unfit 3 form"), ("family pair e 1 :", "unfit 5 form"),
                           ("go pair d", "unfit 4 form"), ("list pair d : Elm | Oak", "fault 1 family"),
                           ("list pair d : Oak", "unfit 5 deal"), ("drop pair\nopen pair", "none")):
            self.assertEqual(desk.trial(line + "\ncheck pair\n")[-1], told)

    def test_why(self):
        kept = "answer\nseats Oak 1\nseats Elm 1\nout c\ngive d : Elm\nreason d room Oak : Oak\nend\n"
        desk = desk_with(pair_book(), kept)
        for line, told in (("c : Oak Elm", "missing"), ("d : Oak", "room Oak"), ("d : Elm", "given")):
            self.assertEqual(desk.run(f"why b {line}\n"), [told])
        reasons = kept.replace("room Oak", "family").replace("end", "reason d room Elm : Elm\nreason c room Elm : Oak Elm\n"
                                                             "end")
        desk = desk_with(pair_book(), reasons)
        self.assertEqual(desk.run("why b c : Oak Elm\nwhy b d : Oak\nwhy b d : Elm\n"), ["room Elm", "family", "given"])
        # The deal of c falls away now, and the kept answer can still be read.
        self.assertEqual(desk_with(pair_book(), kept).run("order b Elm : d.1\nwhy b c : Oak Elm\nwhy b d : Oak\n"),
                         ["done", "fallen", "room Oak"])

    def test_why_without_an_answer_that_can_be_read(self):
        desk = pair_desk()
        self.assertEqual(desk.run("why pair d : Oak\nwhy pair c : Oak Elm\norder pair Elm :\nwhy pair c : Oak Elm\n"),
                         ["none", "none", "done", "none"])
        desk = pair_desk()
        desk.run("place pair\nroom pair Ash 1\n")
        self.assertEqual(desk.run("why pair d : Oak\nwhy pair c : Oak Elm\n"), ["none", "none"])


class RefusedTest(unittest.TestCase):
    def check(self, script, line, why, desk=None):
        desk = desk or pair_desk()
        before = all_states(desk)
        for run in (desk.run, desk.trial):
            with self.assertRaises(BadDesk) as caught:
                run(script)
            self.assertEqual((caught.exception.line, caught.exception.why), (line, why), script)
            self.assertEqual(all_states(desk), before)

    def test_any_value(self):
        for value in (*[value for value in ODD_VALUES if not isinstance(value, str)], 7, ["open b\n"], Desk()):
            self.check(value, 0, "form")
        for value in ("Pine", "-", "Oak ", "open b", "undo", "\n", " \n", "open b\r\n", "open b\n\n"):
            self.check(value, int(value == "open b\n\n"), "form")

    def test_form(self):
        for line in ("open", "open ", "open b c", "open  b", " open b", "open b ", "open 1b", "open b-", "open " + "b" * 13,
                     "Open b", "opens b", "copy pair", "copy pair q r", "copy pair 1", "copy pair -", "drop", "drop pair c",
                     "room pair Ash", "room pair Ash 1 1", "room pair Ash -1", "room pair Ash 01", "room pair Ash x",
                     "room pair - 1", "room pair Ash 1234567890", "room pair 1 Ash", "seats pair Oak", "seats pair Oak 1.",
                     "seats pair 5", "order pair Oak", "order pair Oak :c.1", "order pair Oak : c", "order pair Oak : c.0",
                     "order pair Oak : c.01", "order pair Oak : c.1  d.1", "order pair Oak : ", "order pair : c.1",
                     "order pair 1 : c.1", "family pair e 0 :", "family pair e 1 : Oak Elm", "family pair e 2 : Oak",
                     "family pair e 2 : Oak - | Elm", "family pair e 1 Oak", "family pair e : Oak", "family pair e 1 : ",
                     "family pair e 1 : Oak |", "family pair e 1 : | Oak", "family pair e 1 : Oak|Elm",
                     "family pair e 1 : 1", "family pair e 1 by any", "family pair 1 1 :", "list pair c", "list pair c : ",
                     "list pair c : Oak |", "list pair c : Oak 1", "list pair c Oak", "list pair : Oak Elm", "go pair",
                     "go pair c d", "go pair c.1", "place", "place pair 0", "show", "show pair pair", "check pair c",
                     "why pair c", "why pair c :", "why pair c : ", "why pair d : Oak | Elm", "why pair d : 1",
                     "why pair d Oak", "settle", "settle pair c", "try pair", "try pair first", "try pair lowest turn",
                     "try pair Lowest", "lists pair c : Oak Elm", "ask pair d : Oak",
                     "undo pair", "undo ", "undo 1", "redo", "", "end", "book", "name pair"):
            self.check(f"{line}\n", 0, "form")
            self.check(f"show pair\nseats pair Oak 3\nopen b\n{line}\nopen 1\n", 3, "form")

    def test_line_feed(self):
        for line in ("open b", "show pair", "undo", "place pair", "x", " "):
            self.check(line, 0, "form")
            self.check(f"open q\nundo\n{line}", 2, "form")
        self.check("open pair\nopen b", 0, "name")

    def test_name(self):
        for line in ("open pair", "copy q r", "copy pair pair", "copy q pair", "drop q", "room q Ash 1", "room pair Oak 1",
                     "seats q Oak 1", "seats pair Ash 1", "seats pair c 1", "order q Oak :", "order pair Ash :",
                     "order pair Oak : e.1", "order pair Oak : c.3", "order pair Oak : c.1 d.2", "family q e 1 : Oak",
                     "family pair c 2 :", "family pair e 1 : Ash", "family pair e 1 : c", "list q c :", "list pair e :",
                     "list pair Oak :", "list pair c : Oak Ash", "go q c", "go pair e", "go pair Oak", "place q", "show q",
                     "check q", "why q c : Oak Elm", "why pair e : Oak", "why pair d : Ash", "why pair c : Oak Ash",
                     "settle q", "try q lowest", "try q turn"):
            self.check(f"{line}\n", 0, "name")
            self.check(f"show pair\n{line}\nshow pair", 1, "name")

    def test_empty(self):
        for line in ("family pair e 2 : - -", "family pair e 1 : Oak | -", "list pair c : - -", "list pair c : Oak Elm | - -",
                     "why pair c : - -", "why pair d : -", "list pair c : -", "list pair d : - -"):
            self.check(f"{line}\n", 0, "empty")

    def test_double(self):
        for line in ("order pair Oak : c.1 d.1 c.1", "family pair e 1 : Oak | Elm | Oak", "list pair d : Oak | Oak",
                     "list pair c : Oak | Oak"):
            self.check(f"{line}\n", 0, "double")

    def test_deal(self):
        for line in ("list pair c : Oak", "list pair c : Oak Elm | Oak", "list pair d : Oak | Oak Elm", "why pair c : Oak",
                     "why pair c : Elm Oak", "why pair c : - Elm", "why pair d : Oak Elm", "why pair d : - Oak"):
            self.check(f"{line}\n", 0, "deal")
            self.check(f"{line}\n", 0, "deal", desk_with_pair_answer())

    def test_nothing(self):
        self.check("undo\n", 0, "nothing", Desk())
        self.check("open b\nundo\nundo\n", 2, "nothing", Desk())
        self.check("undo\nundo\n" * 4, 7, "nothing")
        self.check("show b\nundo\n", 1, "nothing", desk_with(pair_book()))

    def test_two_faults_in_one_line(self):
        for line, why in (("family q c 0 : Ash Ash", "form"), ("family q c 1 : - | -", "name"),
                          ("family pair e 1 : - | - | Ash", "name"), ("family pair e 1 : Oak | Oak | -", "empty"),
                          ("family pair c 1 : Oak Elm", "form"), ("list pair c : Ash | -", "name"),
                          ("list pair c : - | Oak | Oak", "empty"), ("list pair c : Oak | Oak | Elm Elm", "double"),
                          ("list pair e : - -", "name"), ("list q 1 :", "form"), ("order pair Ash : e.1 e.1", "name"),
                          ("order pair Oak : c.1 c.1 e.1", "name"), ("order q Oak : c.1 c.1 e", "form"),
                          ("why pair c : Ash", "name"), ("why pair e : -", "name"), ("why pair d : - -", "empty"),
                          ("why q d : |", "form"), ("room q Oak 01", "form"), ("try q first", "form"),
                          ("copy q 1", "form"), ("undo q", "form")):
            self.check(f"{line}\n", 0, why)

    def test_the_first_line_counts(self):
        self.check("open b\nopen b\nx\n", 1, "name")
        self.check("open b\nx\nopen b\n", 1, "form")
        self.check("open b\ndrop b\nshow b\n", 2, "name")

    def test_what_can_be_taken_back_stays(self):
        desk = pair_desk()
        desk.run("place pair\n")
        self.check("undo\nundo\nopen b\nopen q\nundo\nshow z\n", 5, "name", desk)
        self.assertEqual(desk.many_changes, 8)


def desk_with_pair_answer():
    desk = pair_desk()
    desk.run("place pair\n")
    return desk


class TwinTest(unittest.TestCase):
    def test_trial(self):
        desk = pair_desk()
        before = all_states(desk)
        script = "place pair\ncopy pair q\ngo q c\nshow q\nundo\nundo\nundo\nundo\n"
        told = desk.trial(script)
        self.assertEqual(all_states(desk), before)
        self.assertEqual((desk.trial(script=script), desk.run(script)), (told, told))
        self.assertEqual(len(all_states(desk)), 7)

    def test_twins_go_their_own_ways(self):
        desk = desk_with_pair_answer()
        before = all_states(desk)
        twin = desk.twin()
        self.assertEqual(all_states(twin), before)
        twin.run("undo\nundo\nopen b\n")
        self.assertEqual(all_states(desk), before)
        changed = all_states(twin)
        desk.run("drop pair\n")
        self.assertEqual(all_states(twin), changed)
        self.assertEqual((twin.names(), desk.names()), (["pair", "b"], []))


if __name__ == "__main__":
    unittest.main()
