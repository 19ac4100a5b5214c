"""nearseats.trees: partial assignments, and the judge of trees [28]."""

import unittest

import plaintrees
from randombooks import random_book
from samples import ODD_VALUES, pair_book

from nearseats.assignments import Assignment
from nearseats.blocking import blocking
from nearseats.books import Book
from nearseats.errors import InvalidDeals
from nearseats.judging import Fault
from nearseats.trees import TreeFault, judge_tree, leaves, surely_blocking, surely_over

PAIR_TREE = ("split", ((0, ("split", ((1, ("over", "Oak")), (2, ("over", "Elm")), (None, ("block", 2))))),
                       (None, ("split", ((1, ("block", 0)), (2, ("block", 1)), (None, ("block", 0)))))))
SIZES = {"rooms": 3, "families": 4, "size": 3, "deals": 3, "seats": 2}
# Seeds of books without a stable assignment.
NEVER = (118, 196, 323, 479, 539, 551, 580)


def never_books():
    return [random_book(seed, **SIZES) for seed in NEVER]


def chain(families, part):
    """A split with None alone for each of so many families, and then another part."""
    for _ in range(families):
        part = ("split", ((None, part),))
    return part


def idle_book(families):
    """A book with so many families, all of whose deals fall away."""
    return Book([("Ash", 1)], [(f"f{at}", 1, [("Ash",)]) for at in range(families)], [[]])


class TreeFaultTest(unittest.TestCase):
    def test_attributes_and_repr(self):
        for fault, told in ((TreeFault((0, None, 3), "block"), "TreeFault(0 None 3, block)"),
                            (TreeFault((), "form"), "TreeFault(, form)"),
                            (TreeFault(why="gap", way=(None,)), "TreeFault(None, gap)")):
            self.assertEqual(repr(fault), told)
        self.assertEqual((TreeFault((1, None), "over").way, TreeFault((1, None), "over").why), ((1, None), "over"))

    def test_equal(self):
        fault = TreeFault((0, None), "block")
        self.assertTrue(fault == TreeFault((0, None), "block"))
        self.assertFalse(fault != TreeFault((0, None), "block"))
        for other in (TreeFault((0,), "block"), TreeFault((0, 1), "block"), TreeFault((0, None), "over"),
                      Fault((0, None), "block"), ((0, None), "block"), None, "TreeFault(0 None, block)"):
            self.assertFalse(fault == other)
            self.assertTrue(fault != other)


class PartialTest(unittest.TestCase):
    def test_pair(self):
        book = pair_book()
        for decided, over, block in (([], [], []), ([0], [], []), ([None], [], []), ([0, 1], ["Oak"], []),
                                     ((0, 2), ["Elm"], []), ([0, None], [], [2]), ([None, 1], [], [0]),
                                     ([None, 2], [], [1]), ((None, None), [], [0, 1, 2])):
            self.assertEqual((surely_over(book, decided), surely_blocking(book, decided)), (over, block))
        self.assertEqual(surely_over(decided=[0, 2], book=book), ["Elm"])
        self.assertEqual(surely_blocking(decided=[None, 2], book=book), [1])

    def test_beside_all_that_go_on(self):
        told = {"over": 0, "block": 0}
        for seed in range(60):
            book = random_book(seed, rooms=2, families=3, size=2, deals=2, seats=2)
            lists = plaintrees.all_lists(book)
            for decided in plaintrees.partial_lists(book):
                over, block = surely_over(book, decided), surely_blocking(book, decided)
                whole = [Assignment(book, deals) for deals in lists if deals[:len(decided)] == decided]
                for assignment in whole:
                    self.assertTrue(set(over) <= set(assignment.over()))
                    self.assertTrue(set(block) <= set(blocking(assignment)))
                if len(decided) == len(book):
                    self.assertEqual((over, block), (whole[0].over(), list(blocking(whole[0]))))
                else:
                    told["over"] += len(over)
                    told["block"] += len(block)
        self.assertGreater(min(told.values()), 20)

    def test_beside_the_words(self):
        books = [random_book(seed, **SIZES) for seed in range(40)]
        for book in (*books, *never_books(), pair_book() + books[1]):
            for decided in plaintrees.partial_lists(book)[:400]:
                self.assertEqual(surely_over(book, decided), plaintrees.surely_over(book, decided))
                self.assertEqual(surely_blocking(book, decided), plaintrees.surely_blocking(book, decided))

    def test_undecided_families_stand_ahead(self):
        # d.1 may still come to Oak, but e.1 has no open deal there, since Elm does not take it.
        text = ("book\nroom Oak 1\nroom Elm 1\nfamily c 1 : Oak\nfamily d 1 : {}\nfamily e 2 : - Oak | Oak Elm\n"
                "order Oak : d.1 e.1 c.1 e.2\norder Elm : d.1\nend\n")
        self.assertEqual(surely_blocking(Book.read(text.format("Oak | Elm")), [None]), [])
        self.assertEqual(surely_blocking(Book.read(text.format("Oak | Elm")), [None, 2]), [0, 1])
        self.assertEqual(surely_blocking(Book.read(text.format("Oak | Elm")), [None, 1]), [])
        self.assertEqual(surely_blocking(Book.read(text.format("Elm")), [None]), [0])

    def test_rooms_in_the_order_of_the_book(self):
        book = Book([("Oak", 1), ("Ash", 1), ("Elm", 2)], [(name, 3, [("Elm", "Ash", "Oak")]) for name in "cde"],
                    [[f"{name}.3" for name in "cde"], [f"{name}.2" for name in "cde"], [f"{name}.1" for name in "cde"]])
        self.assertEqual(surely_over(book, [0, 1]), ["Oak", "Ash"])
        self.assertEqual(surely_over(book, [0, 1, 2]), ["Oak", "Ash", "Elm"])

    def test_wrong_decided(self):
        for tell in (surely_over, surely_blocking):
            for value in (*[value for value in ODD_VALUES if value not in ([], ())], [0, 1, None], "0", {0: 0}):
                with self.assertRaises(InvalidDeals) as caught:
                    tell(pair_book(), value)
                self.assertEqual(caught.exception.at, 0 if isinstance(value, (list, tuple)) and len(value) < 3 else -1)
            for decided, at in (([1], 0), ([True], 0), ([False, 1], 0), ((0, 0), 1), ([None, True], 1), ([0, "1"], 1),
                                ([None, [1]], 1), (["", ""], 0), ([0, 3], 1), ([0, -1], 1)):
                with self.assertRaises(InvalidDeals) as caught:
                    tell(pair_book(), decided)
                self.assertEqual((caught.exception.at, caught.exception.code), (at, "InvalidDeals"))

    def test_decided_is_not_changed(self):
        decided = [None]
        surely_over(pair_book(), decided)
        surely_blocking(pair_book(), decided).append(5)
        surely_over(pair_book(), decided).append(5)
        self.assertEqual((decided, surely_over(pair_book(), [0]), surely_blocking(pair_book(), [0])), ([None], [], []))


class JudgeTest(unittest.TestCase):
    def check(self, book, tree, way, why):
        self.assertEqual(judge_tree(book, tree), TreeFault(way, why))

    def test_taken(self):
        self.assertIsNone(judge_tree(pair_book(), PAIR_TREE))
        self.assertIsNone(judge_tree(tree=PAIR_TREE, book=pair_book()))
        for book in never_books():
            self.assertIsNone(judge_tree(book, plaintrees.plain_tree(book)))

    def test_any_value(self):
        for value in (*ODD_VALUES, "split", ("split",), ("over", "Oak", 1), ["over", "Oak"], ("Over", "Oak"),
                      (None, "Oak"), (True, 0), ("", 0), (["over"], "Oak"), (("over",), "Oak"), ({}, 0), ("block",),
                      ("split", []), ("split", None), ("split", "ab"), ("split", {0: 1}), ("split", 0),
                      ("split", (0, 1)), ("split", ((0, ("over", "Oak")), [None, ("over", "Oak")])),
                      ("split", ((0, 1, 2),)), ("split", ((0,),)), ("split", ("ab",)), TreeFault((), "form")):
            self.check(pair_book(), value, (), "form")
            self.check(Book.empty(), value, (), "form")

    def test_each_fault_at_each_place(self):
        for book in (pair_book(), *never_books()[2:]):
            tree = plaintrees.plain_tree(book)
            for way, part in plaintrees.places(tree):
                self.check_place(book, tree, way, part)

    def check_place(self, book, tree, way, part):
        decided = list(way)
        last = len(way) == len(book)
        told = [(value, "form") for value in (None, ["over", "Oak"], ("split", [0]), ("other", 0), ("split", (0,)))]
        told.extend((("over", room), "over") for room in book.room_names() if room not in surely_over(book, decided))
        told.extend((("over", value), "over") for value in (None, "", "Pine", 0, True, [book.room_names()], {}, ("R0",)))
        known = range(book.many_open)
        told.extend((("block", at), "block") for at in known if at not in surely_blocking(book, decided))
        told.extend((("block", value), "block") for value in (None, "0", -1, len(known), True, False, [0], {0: 0}, (0,)))
        told.append((("split", ()), "gap"))
        if last:
            told.append((("split", ((None, ("over", "R0")),)), "gap"))
        else:
            branches = [(number, ("block", "x")) for number in plaintrees.choices(book)[len(way)]]
            told.extend((("split", tuple(wrong)), "gap") for wrong in
                        (branches[:-1], branches[1:], branches + branches[-1:], branches[::-1][:len(branches) - 1],
                         [(str(number), branch) for number, branch in branches],
                         [([number], branch) for number, branch in branches],
                         [({}, branch) for _, branch in branches], [*branches[:-1], (False, ("block", 0))]))
        for value, why in told:
            self.check(book, plaintrees.with_place(tree, way, value), way, why)
        for value in [("over", room) for room in surely_over(book, decided)]:
            self.assertIsNone(judge_tree(book, plaintrees.with_place(tree, way, value)))
        for value in [("block", number) for number in surely_blocking(book, decided)]:
            self.assertIsNone(judge_tree(book, plaintrees.with_place(tree, way, value)))

    def test_true_and_false_are_no_numbers(self):
        kind, branches = PAIR_TREE
        (_, first), second = branches
        self.check(pair_book(), (kind, ((False, first), second)), (), "gap")
        (_, wrong), *others = first[1]
        self.check(pair_book(), (kind, ((0, (kind, ((True, wrong), *others))), second)), (0,), "gap")

    def test_form_of_a_split_ahead_of_its_gap_and_its_branches(self):
        self.check(pair_book(), ("split", ((5, None), 3)), (), "form")
        self.check(pair_book(), ("split", ((5, None), (0, None))), (), "gap")
        self.check(pair_book(), ("split", ((0, None), (None, None))), (0,), "form")
        self.check(Book.empty(), ("split", ((None, None),)), (), "gap")
        self.check(Book.empty(), ("split", (None,)), (), "form")

    def test_two_faults(self):
        for first, second in (((0,), (None,)), ((0, 1), (0, 2)), ((0, None), (None,)), ((0,), (None, 1)),
                              ((None, 1), (None, None))):
            tree = plaintrees.with_place(PAIR_TREE, second, "none")
            self.check(pair_book(), plaintrees.with_place(tree, first, ("over", "Ash")), first, "over")
            tree = plaintrees.with_place(PAIR_TREE, first, "none")
            self.check(pair_book(), plaintrees.with_place(tree, second, ("block", 0.5)), first, "form")
        tree = plaintrees.with_place(PAIR_TREE, (0, 1), None)
        self.check(pair_book(), ("split", tree[1][:1]), (), "gap")

    def test_books_with_a_stable_assignment(self):
        for seed in range(40):
            book = random_book(seed, **SIZES)
            stable = plaintrees.first_stable(book)
            if stable is not None:
                fault = judge_tree(book, plaintrees.plain_tree(book))
                self.assertEqual((list(fault.way), fault.why), (stable, "form"))

    def test_rooms_that_are_named_as_forms(self):
        book = Book([("over", 1), ("split", 0)], [("c", 2, [("over", "-")])], [["c.1"], []])
        for room in ("over", "split", "block"):
            self.check(book, ("over", room), (), "over")

    def test_deep_trees(self):
        for many in (1, 30, 45):
            book = idle_book(many)
            self.check(book, chain(many, ("block", 0)), (None,) * many, "block")
            self.check(book, chain(many, ("over", "Ash")), (None,) * many, "over")
            self.check(book, chain(many + 1, ("over", "Oak")), (None,) * many, "gap")
            self.check(book, chain(many - 1, None), (None,) * (many - 1), "form")
            self.assertEqual(leaves(chain(many, ("over", "Oak"))), 1)
            self.assertIsNone(judge_tree(book + pair_book(), chain(many, PAIR_TREE)))
            self.check(book + pair_book(), chain(many, PAIR_TREE[1][0][1]), (None,) * many, "gap")


class LeavesTest(unittest.TestCase):
    def test_leaves(self):
        for tree, many in ((PAIR_TREE, 6), (("over", "Oak"), 1), (("block", None), 1), (("split", ()), 0),
                           (("split", ((0, ("split", ())), (None, ("over", [])))), 1)):
            self.assertEqual(leaves(tree), many)
        self.assertEqual(leaves(tree=PAIR_TREE), 6)
        for book in never_books():
            tree = plaintrees.plain_tree(book)
            self.assertEqual(leaves(tree), sum(part[0] != "split" for _, part in plaintrees.places(tree)))


if __name__ == "__main__":
    unittest.main()
