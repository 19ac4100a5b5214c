"""nearseats.settling: the first stable assignment, or the plain tree [29]."""

import unittest

import plaintrees
from randombooks import random_book
from samples import pair_book

from nearseats.assignments import Assignment
from nearseats.blocking import is_stable
from nearseats.books import Book
from nearseats.changes import renamed, with_seats
from nearseats.settling import Never, Stable, settle
from nearseats.trees import judge_tree, leaves

TREE = ("split", ((0, ("split", ((1, ("over", "Oak")), (2, ("over", "Elm")), (None, ("block", 2))))),
                  (None, ("split", ((1, ("block", 0)), (2, ("block", 1)), (None, ("block", 0)))))))
# Seeds of books with several stable assignments, and of books with none.
SIZES = {"rooms": 3, "families": 4, "size": 3, "deals": 3, "seats": 2}
NEVER = (118, 196, 323, 479, 539, 551, 580)


def other_names(book, word):
    return renamed(book, rooms={name: word + name for name in book.room_names()},
                   families={name: word + name for name in book.family_names()})


class OutcomeTest(unittest.TestCase):
    def test_stable(self):
        given = Assignment(pair_book(), [0, None])
        told = Stable(given)
        self.assertEqual((told.assignment, bool(told), repr(told)), (given, True, "Stable(1 of 2)"))
        self.assertEqual(repr(Stable(assignment=Assignment.empty(Book.empty()))), "Stable(0 of 0)")
        self.assertIs(bool(Stable(Assignment.empty(Book.empty()))), True)
        self.assertTrue(told == Stable(Assignment(pair_book(), [0, None])))
        for other in (Stable(Assignment(pair_book(), [0, 1])), Never(TREE), given, None, Never(given),
                      Stable(Assignment(with_seats(pair_book(), "Oak", 2), [0, None]))):
            self.assertTrue(told != other)
            self.assertFalse(told == other)

    def test_never(self):
        told = Never(TREE)
        self.assertEqual((told.tree, bool(told), repr(told)), (TREE, False, "Never(6 leaves)"))
        self.assertEqual(repr(Never(tree=("over", "Oak"))), "Never(1 leaves)")
        self.assertTrue(told == Never(tuple(TREE)))
        for other in (Never(("over", "Oak")), Stable(Assignment(pair_book(), [0, None])), TREE, None, False):
            self.assertTrue(told != other)
            self.assertFalse(told == other)


class SettleTest(unittest.TestCase):
    def check(self, book):
        """Whether a book has a stable assignment, compared with a search through all assignments."""
        told = settle(book)
        first = plaintrees.first_stable(book)
        self.assertEqual(settle(book), told)
        if first is None:
            self.assertIsInstance(told, Never)
            self.assertEqual(told.tree, plaintrees.plain_tree(book))
            self.assertIsNone(judge_tree(book, told.tree))
            return False
        self.assertIsInstance(told, Stable)
        self.assertEqual(told.assignment, Assignment(book, first))
        return True

    def test_examples_of_the_document(self):
        book = pair_book()
        never, wider = settle(book), settle(book=with_seats(book, "Oak", 2))
        self.assertEqual((bool(never), never.tree, wider.assignment.deals()), (False, TREE, [0, 1]))

    def test_small_books(self):
        several = 0
        for seed in range(150):
            book = random_book(seed, **SIZES)
            self.check(book)
            several += sum(is_stable(Assignment(book, deals)) for deals in plaintrees.all_lists(book)) > 1
        self.assertGreater(several, 10)

    def test_books_without_a_stable_assignment(self):
        for seed in NEVER:
            self.assertIs(self.check(random_book(seed, **SIZES)), False)

    def test_books_without_families_rooms_or_open_deals(self):
        for text in ("book\nend\n", "book\nroom Oak 1\norder Oak :\nend\n", "book\nfamily c 1 :\nfamily d 2 :\nend\n",
                     "book\nroom Oak 1\nfamily c 2 : Oak Oak | Oak -\norder Oak : c.2\nend\n"):
            book = Book.read(text)
            self.assertIs(self.check(book), True)
            self.assertEqual(settle(book).assignment, Assignment.empty(book))

    def test_dozens_of_families_whose_deals_fall_away(self):
        families = [(f"f{at}", 2, [("Oak", "Oak"), ("-", "Oak")]) for at in range(45)]
        book = Book([("Oak", 1)], families, [[f"f{at}.1" for at in range(45)]])
        self.assertEqual((settle(book), repr(settle(book))), (Stable(Assignment.empty(book)), "Stable(0 of 45)"))
        tree = settle(book + other_names(pair_book(), "P")).tree
        for _ in range(45):
            self.assertEqual((len(tree[1]), tree[1][0][0]), (1, None))
            tree = tree[1][0][1]
        self.assertEqual(leaves(tree), 6)

    def test_two_books_beside_each_other(self):
        never = random_book(NEVER[0], **SIZES)
        stable = [random_book(seed, rooms=2, families=2, size=2, deals=2, seats=2) for seed in range(12)]
        for book in stable:
            self.assertIs(self.check(book + other_names(pair_book(), "P")), False)
            self.assertIs(self.check(other_names(pair_book(), "P") + book), False)
            told = settle(book + other_names(stable[0], "Q")).assignment.deals()
            second = [None if at is None else at + book.many_open for at in settle(stable[0]).assignment.deals()]
            self.assertEqual(told, [*settle(book).assignment.deals(), *second])
        self.assertIs(self.check(other_names(never, "P") + stable[0]), False)

    def test_a_book_with_many_assignments(self):
        # Each pair of families has a stable assignment only if the families behind it are out of its way.
        book = other_names(pair_book(), "P")
        for word in "QRST":
            extra = Book([("Oak", 1)], [("c", 1, [("Oak",)]), ("d", 1, [("Oak",)])], [["d.1", "c.1"]])
            book = other_names(extra, word) + book
        tree = settle(book).tree
        self.assertEqual(tree, plaintrees.plain_tree(book))
        self.assertIsNone(judge_tree(book, tree))

    def test_what_is_told_stays(self):
        book = pair_book()
        told = settle(with_seats(book, "Oak", 2))
        told.assignment.deals().append(None)
        self.assertEqual(told.assignment.deals(), [0, 1])


if __name__ == "__main__":
    unittest.main()
