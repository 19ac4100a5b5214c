"""What the document promises over the whole program: arguments and told things stay as they are [2]."""

import copy
import unittest

from randombooks import random_book
from samples import pair_book

from nearseats.answers import Answer, reasons_for
from nearseats.assignments import Assignment
from nearseats.bases import Basis, determinant, independent_rows
from nearseats.blocking import blocking, blocks, chosen, is_stable
from nearseats.books import Book
from nearseats.changes import with_deals, with_family, with_order, with_seats
from nearseats.clauses import listed, ways
from nearseats.desk import Desk
from nearseats.judging import is_right, judge
from nearseats.ordinal import first_ordinal, home, is_ordinal, replacement, worst_column
from nearseats.placing import changed_seats, place, place_shares
from nearseats.regions import Region
from nearseats.roads import Roads
from nearseats.rounding import Rounding
from nearseats.settling import settle
from nearseats.shares import Shares, full_rows
from nearseats.slack import harmless, leavers, spare
from nearseats.tables import Table
from nearseats.trees import judge_tree, surely_blocking, surely_over
from nearseats.tries import Try, after
from nearseats.walks import Walk, complete_sets, is_complete, shares_of

DESK = ("open b\nroom b Oak 1\nfamily b c 1 : Oak\nfamily b d 1 : Oak\norder b Oak : d.1 c.1\nplace b\ncopy b q\n")


def spoiled(value):
    """Changes all lists and dicts in a value."""
    if isinstance(value, (list, tuple)):
        for item in value:
            spoiled(item)
    if isinstance(value, dict):
        for item in value.values():
            spoiled(item)
        value[99] = ["more"]
    if isinstance(value, list):
        value.reverse()
        value.append("more")


def tupled(value):
    """A tuple in the place of each list."""
    if isinstance(value, (list, tuple)):
        return tuple(tupled(item) for item in value)
    return value


def made_objects():
    """One object of each class that keeps something, with some steps done."""
    book = random_book(17, rooms=3, families=5, size=3, deals=3, seats=3)
    walk, rounding, attempt, desk = Walk(Table(book)), Rounding(book, shares_of(book)), Try(Assignment.empty(book)), Desk()
    walk.run()
    rounding.step()
    rounding.step()
    attempt.run()
    desk.run(DESK)
    ended = rounding.twin()
    ended.run()
    return {"book": book, "assignment": place_assignment(book), "answer": place(book), "table": Table(book),
            "shares": shares_of(book), "basis": walk.basis(), "walk": walk, "rounding": rounding, "ended": ended,
            "region": rounding.region(), "attempt": attempt, "desk": desk, "roads": Roads(["A", "B"], [("A", "B", 2)]),
            "odd": Answer([[1, {"a": [2]}]], {"b": [3]}, {5: [4], 1: {"c": []}})}


def place_assignment(book):
    return Assignment(book, place(book).deals())


def told_things(told):
    """Everything with lists or dicts in it that these objects tell, by names."""
    book, assignment, answer, table = told["book"], told["assignment"], told["answer"], told["table"]
    shares, walk, rounding, attempt, desk = told["shares"], told["walk"], told["rounding"], told["attempt"], told["desk"]
    seats, odd = answer.seats(), told["odd"]
    return {
        "names": [book.room_names(), book.family_names(), book.seats(), book.text()],
        "families": [[book.deals(name), book.numbers(name), book.members(name)] for name in book.family_names()],
        "rooms": [[book.order(name), assignment.residents(name)] for name in book.room_names()],
        "sent": [book.sent(number, room) for number in range(book.many_open) for room in book.room_names()],
        "assignment": [assignment.deals(), assignment.counts(), assignment.over(), repr(assignment)],
        "answer": [answer.seats(), answer.deals(), answer.reasons()],
        "odd": [odd.seats(), odd.deals(), odd.reasons(), odd.reason(5), odd.reason(1)],
        "reasons": reasons_for(assignment, seats=seats),
        "blocking": [list(blocking(assignment)), chosen(book, "R0", book.order("R0"))],
        "table": [table.rows(), [table.order(row) for row in range(table.many_rows)]],
        "shares": [shares.numbers(), full_rows(table, shares)],
        "basis": [told["basis"].columns(), told["basis"].weights(0)],
        "walk": [walk.feasible(), walk.ordinal(), walk.log(), first_ordinal(table, 0)],
        "rounding": [rounding.unsettled(), rounding.settled(), rounding.released(), rounding.full(),
                     rounding.weight_list(), rounding.releasable(), rounding.region().rows()],
        "ended": [told["ended"].found_seats(), told["ended"].final().deals(), told["ended"].settled()],
        "region": [told["region"].rows(), told["region"].tight(told["region"].greatest(rounding.weight_list()))],
        "placing": changed_seats(book, answer),
        "trees": [surely_over(book, []), surely_blocking(book, [None])],
        "attempt": [attempt.log(), attempt.present.deals()],
        "slack": [spare(assignment, seats=seats), harmless(assignment, seats=seats), leavers(assignment, seats=seats)],
        "desk": [desk.names(), desk.text(), desk.trial("show b\ncheck b\n"), [desk[name].text() for name in desk.names()]],
        "roads": told["roads"].rooms_within("A", 5),
        "clauses": [ways([["A", "B"], ["B"]]), listed([["A", "B"], ["B"]], [("any",)], told["roads"])],
        "complete": list(complete_sets(Table(pair_book()))),
        "settle": [settle(pair_book()).tree, settle(with_seats(pair_book(), "Oak", 2)).assignment.deals()],
    }


def list_calls():
    """Calls that take lists, as pairs of a function of one argument and the argument."""
    book = pair_book()
    table = Table(book)
    halves = Shares([1, 1, 1], below=2)
    empty = Assignment.empty(book)
    roads = Roads(["Oak", "Elm"], [("Oak", "Elm", 1)])
    both = ["Oak", "Elm"]
    return [
        (lambda told: Book(*told).text(), [[("Oak", 1)], [("c", 1, [("Oak",), ("-",)][:1])], [["c.1"]]]),
        (lambda told: with_order(book, "Oak", told), ["c.2", "d.1"]),
        (lambda told: with_deals(book, "d", told), [("Elm",), ("Oak",)]),
        (lambda told: with_family(book, "e", 1, told), [("Elm",), ("Oak",)]),
        (lambda told: Roads(told[0], told[1]).distance("Oak", "Elm"), [both, [("Oak", "Elm", 3)]]),
        (ways, [both, ["Elm"]]),
        (lambda told: listed(told[0], told[1], roads), [[both, ["Elm"]], [("together",), ("drop", 1)]]),
        (lambda told: Assignment(book, told), [0, None]),
        (lambda told: empty.over(seats=told), [0, 1]),
        (lambda told: chosen(book, "Oak", told[0], seats=told[1]), [["c.2", "d.1"], [1, 0]]),
        (lambda told: blocks(empty, 0, seats=told), [1, 2]),
        (lambda told: list(blocking(empty, seats=told)), [1, 2]),
        (lambda told: is_stable(empty, seats=told), [0, 0]),
        (lambda told: Answer(told[0], told[1], {1: "family"}).text(book), [[1, 2], [0, None]]),
        (lambda told: Answer(told[0], told[1], {1: "family"}).seats(), [[1, 2], [0, None]]),
        (lambda told: judge(book, Answer(told[0], told[1], {2: "family"})), [[2, 1], [0, 1]]),
        (lambda told: is_right(empty, 0, "room Oak", seats=told), [0, 1]),
        (lambda told: reasons_for(empty, seats=told), [0, 0]),
        (lambda told: Shares(told, below=4), [2, 4, 6]),
        (independent_rows, [[1, 2], [2, 4], [0, 1]]),
        (determinant, [[1, 2], [3, 4]]),
        (lambda told: Basis(table, told), [6, 5, 4, 0]),
        (lambda told: is_ordinal(table, told), [6, 5, 4, 0]),
        (lambda told: worst_column(table, told, 1), [6, 5]),
        (lambda told: home(table, told, 4), [6, 5, 4, 0]),
        (lambda told: replacement(table, told, 4), [6, 5, 4, 0]),
        (lambda told: is_complete(table, told), [6, 5, 4, 0]),
        (lambda told: Walk(table, start=told).feasible(), [6, 5, 4, 0]),
        (lambda told: Region(2, (told[0], 3, True), (told[1], 1, False)).rows(), [[1, 2], [0, 1]]),
        (lambda told: Region(2, ((1, 2), 3, False)).greatest(told), [1, 1]),
        (lambda told: place_shares(book, Shares(told, below=2)), [1, 1, 1]),
        (lambda told: changed_seats(book, Answer(told, [], {})), [4, 0]),
        (lambda told: surely_over(book, told), [0, 2]),
        (lambda told: surely_blocking(book, told), [None, 2]),
        (lambda told: Try(empty, seats=told).run(), [2, 1]),
        (lambda told: after(empty, 1, seats=told), [2, 1]),
        (lambda told: spare(Assignment(book, [0, 1]), seats=told), [2, 1]),
        (lambda told: harmless(Assignment(book, [0, 1]), seats=told), [2, 1]),
        (lambda told: leavers(Assignment(book, [0, 1]), seats=told), [2, 1]),
        (lambda told: Rounding(book, halves).region().greatest(told), [2, 1, 1]),
    ]


class WholeTest(unittest.TestCase):
    def test_told_things_may_be_changed(self):
        told = made_objects()
        before = copy.deepcopy(told_things(told))
        for value in told_things(told).values():
            spoiled(value)
        self.assertEqual(told_things(told), before)
        for name, value in before["odd"][2].items():
            self.assertEqual(told["odd"].reason(name), value)

    def test_equal_calls_on_equal_states(self):
        self.assertEqual(told_things(made_objects()), told_things(made_objects()))

    def test_later_steps_change_nothing_that_was_told(self):
        told = made_objects()
        kept = told_things(told)
        before = copy.deepcopy(kept)
        twins = {name: told[name].twin() for name in ("walk", "rounding", "ended", "attempt", "desk")}
        present, region, basis = told["rounding"].present, told["rounding"].region(), told["walk"].basis()
        lines = [present.text(), region.rows(), basis.columns()]
        told["walk"].back()
        told["walk"].back()
        told["rounding"].run()
        told["ended"].undo()
        told["attempt"].undo()
        told["desk"].run("undo\ngo b c\ndrop b\nopen z\n")
        self.assertEqual(kept, before)
        self.assertEqual([present.text(), region.rows(), basis.columns()], lines)
        self.assertEqual(told_things({**told, **twins}), before)

    def test_arguments_are_not_changed(self):
        for call, listed_argument in list_calls():
            before, argument = copy.deepcopy(listed_argument), copy.deepcopy(listed_argument)
            result = call(argument)
            self.assertEqual(argument, before)
            shown = repr(result)
            spoiled(argument)
            self.assertEqual((repr(result), call(before)), (shown, result))

    def test_tuples_in_the_place_of_lists(self):
        for call, argument in list_calls():
            self.assertEqual(call(tupled(argument)), call(argument))

    def test_trees_and_answers_are_not_changed(self):
        book = pair_book()
        tree = settle(book).tree
        reasons = {2: "family", "x": [1]}
        answer = Answer([2, 1], [0, 1], reasons)
        before = copy.deepcopy((tree, answer.reasons()))
        self.assertEqual((judge_tree(book, tree), judge(book, answer)), (None, None))
        reasons[2] = "room Oak"
        reasons["x"].append(5)
        self.assertEqual((tree, answer.reasons()), before)


if __name__ == "__main__":
    unittest.main()
