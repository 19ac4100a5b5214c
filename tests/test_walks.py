"""nearseats.walks: complete sets and walks [20] [21]."""

import itertools
import random
import unittest

from nearseats.bases import Basis
from nearseats.books import Book
from nearseats.errors import Finished, InvalidRow, NotComplete, NothingLeft
from nearseats.ordinal import first_ordinal, is_ordinal, replacement
from nearseats.shares import Shares, is_dominating
from nearseats.tables import Table
from nearseats.walks import Walk, complete_sets, is_complete, shares_of

import fractionbases
from randombooks import random_book
from samples import ODD_VALUES, pair_book

NO_ROWS = (None, True, False, -1, 4, 10 ** 30, "0", "c", (), (0,), [], [0], {}, {0: 0}, ("family", "c"), Book.empty())
NO_SETS = (*(value for value in ODD_VALUES if value is not None), "0456", {0: 0, 4: 1, 5: 2, 6: 3}, [0, 4, 5],
           [0, 4, 5, 6, 1], [0, 4, 5, 5], [0, 4, 5, 7], [False, 4, 5, 6], [0, 4, 5, None], (0, 4, 5, [6]), [0, 1, 2, 3],
           [1, 2, 3, 6], [0, 1, 2, 4], [0, 1, 2, 5])
# Three, and five complete sets.
THREE = ("book\nroom A 1\nroom B 2\nfamily c 3 : B B A\nfamily d 3 : B A -\n"
         "order A : c.2 d.1 d.2 d.3 c.3 c.1\norder B : c.2 c.1 d.2 d.3 d.1 c.3\nend\n")
FIVE = ("book\nroom A 3\nroom B 2\nfamily c 3 : - - A | A A - | B B B\nfamily d 2 : B A | B B\n"
        "family e 3 : - - B | B B A\norder A : e.1 d.2 c.1 c.2 e.2 d.1 c.3 e.3\n"
        "order B : c.1 e.2 d.2 e.1 e.3 d.1 c.2 c.3\nend\n")
IDLE = "book\nroom A 1\nfamily c 1 :\nfamily d 1 : A\norder A :\nend\n"


def chance_tables(many, **sizes):
    for seed in range(many):
        yield Table(random_book(seed, **sizes))


class CompleteTest(unittest.TestCase):
    def setUp(self):
        self.table = Table(pair_book())

    def test_is_complete(self):
        for columns in ([0, 4, 5, 6], (6, 0, 5, 4)):
            self.assertIs(is_complete(self.table, columns), True)
        self.assertIs(is_complete(columns=[0, 4, 5, 6], table=self.table), True)

    def test_any_value(self):
        for value in (*NO_SETS, None, Basis(self.table, [0, 4, 5, 6]), self.table):
            self.assertIs(is_complete(self.table, value), False)

    def test_ordinal_sets_that_are_no_feasible_basis(self):
        told = {"dependent": 0, "not feasible": 0}
        for table in chance_tables(40, rooms=2, families=2, deals=3):
            for columns in fractionbases.column_sets(table):
                if is_ordinal(table, columns) and not fractionbases.is_feasible(table, columns):
                    dependent = fractionbases.solution(table, columns) is None
                    told["dependent" if dependent else "not feasible"] += 1
                    self.assertIs(is_complete(table, columns), False)
        self.assertGreater(min(told.values()), 5)

    def test_complete_sets_in_their_order(self):
        for table in (Table(Book.read(FIVE)), *chance_tables(40, rooms=2, families=2, deals=3)):
            found = list(complete_sets(table))
            wanted = [columns for columns in fractionbases.column_sets(table)
                      if fractionbases.is_ordinal(table, columns) and fractionbases.is_feasible(table, columns)]
            self.assertEqual(found, wanted)
            self.assertEqual(len(found) % 2, 1)
            for columns in found:
                self.assertIs(is_dominating(table, Basis(table, columns).shares()), True)

    def test_several_complete_sets(self):
        self.assertEqual(list(complete_sets(Table(Book.read(THREE)))), [[0, 1, 2, 4], [0, 1, 3, 5], [0, 1, 4, 5]])
        self.assertEqual(list(complete_sets(Table(Book.read(FIVE)))),
                         [[0, 1, 6, 7, 9], [1, 2, 3, 5, 10], [1, 3, 5, 7, 9], [1, 3, 5, 9, 10], [1, 5, 6, 7, 9]])

    def test_a_generator(self):
        told = complete_sets(table=self.table)
        self.assertIs(iter(told), told)
        self.assertEqual(list(told), [[0, 4, 5, 6]])

    def test_lists_that_are_changed_on_the_way(self):
        found = []
        for columns in complete_sets(Table(Book.read(FIVE))):
            found.append(tuple(columns))
            columns.clear()
        self.assertEqual(found, [tuple(columns) for columns in complete_sets(Table(Book.read(FIVE)))])
        self.assertEqual(len(found), 5)

    def test_without_rows_and_without_open_deals(self):
        self.assertEqual(list(complete_sets(Table(Book.empty()))), [[]])
        self.assertIs(is_complete(Table(Book.empty()), []), True)
        self.assertIs(is_complete(Table(Book.empty()), [0]), False)
        self.assertEqual(list(complete_sets(Table(Book.read(IDLE)))), [[0, 1, 2]])


class StepTest(unittest.TestCase):
    def setUp(self):
        self.table = Table(pair_book())

    def test_the_example(self):
        walk = Walk(self.table, first=1)
        self.assertEqual(walk.run(), 5)
        self.assertEqual(walk.log(), [("put", 4, 3), ("take", 5, 3), ("put", 5, 2), ("take", 6, 2), ("put", 6, 1)])
        self.assertEqual(walk.found_shares.text(), "shares 2 : 1 1 1")
        self.assertEqual((walk.feasible(), walk.ordinal()), ([0, 4, 5, 6], [0, 4, 5, 6]))

    def test_one_step_after_the_other(self):
        walk = Walk(self.table, first=1)
        self.check_state(walk, [0, 1, 2, 3], [0, 2, 3, 4], 0, False)
        self.assertEqual(walk.step(), ("put", 4, 3))
        self.check_state(walk, [0, 1, 2, 4], [0, 2, 3, 4], 1, False)
        self.assertEqual(walk.step(), ("take", 5, 3))
        self.check_state(walk, [0, 1, 2, 4], [0, 2, 4, 5], 2, False)
        self.assertEqual(walk.run(), 3)
        self.check_state(walk, [0, 4, 5, 6], [0, 4, 5, 6], 5, True)

    def check_state(self, walk, feasible, ordinal, steps, ended):
        self.assertEqual((walk.feasible(), walk.ordinal(), walk.many_steps), (feasible, ordinal, steps))
        self.assertTrue(walk.basis() == Basis(self.table, feasible))
        self.assertEqual(walk.basis().below, Basis(self.table, feasible).below)
        self.assertEqual(len(walk.log()), steps)
        self.assertIs(walk.ended, ended)
        self.assertIs(walk.complete, ended)
        self.assertEqual(walk.found_shares is None, not ended)
        self.assertEqual(repr(walk), f"Walk({steps} steps)")

    def test_the_first_row_without_a_word(self):
        walk = Walk(self.table)
        self.assertIs(walk.table, self.table)
        self.assertEqual(walk.ordinal(), [1, 2, 3, 6])
        walk.run()
        self.assertEqual(walk.log(), [("put", 6, 3), ("take", 5, 3), ("put", 5, 1), ("take", 3, 1), ("put", 3, 2),
                                      ("take", 4, 2), ("put", 4, 3), ("take", 0, 3)])

    def test_behind_the_end(self):
        walk = Walk(self.table)
        walk.run()
        before = (walk.log(), walk.feasible(), walk.ordinal())
        self.assertEqual(walk.run(), 0)
        with self.assertRaises(Finished):
            walk.step()
        self.assertEqual((walk.log(), walk.feasible(), walk.ordinal()), before)

    def test_what_is_told_is_new(self):
        walk = Walk(self.table)
        walk.step()
        for told in (walk.log, walk.feasible, walk.ordinal):
            before = list(told())
            self.assertIsInstance(told(), list)
            told().clear()
            self.assertEqual(told(), before)

    def test_from_a_complete_set(self):
        for start in ([0, 4, 5, 6], (6, 5, 0, 4)):
            walk = Walk(self.table, start=start)
            # The idle column of the first row is there, so that it is taken away.
            self.assertEqual((walk.complete, walk.ended, walk.many_steps), (True, False, 0))
            self.assertTrue(walk.found_shares == Shares([1, 1, 1], below=2))
            self.assertEqual(walk.step(), ("take", 3, 0))
            self.assertEqual((walk.complete, walk.found_shares), (False, None))
        walk = Walk(self.table, start=[0, 4, 5, 6], first=1)
        self.assertEqual(walk.step(), ("put", 1, 6))
        self.assertEqual(walk.run(), 4)
        # It ends with the beginning.
        self.assertEqual((walk.feasible(), walk.ordinal(), walk.complete), ([0, 1, 2, 3], [0, 2, 3, 4], False))
        self.assertIsNone(walk.found_shares)
        with self.assertRaises(Finished):
            walk.step()

    def test_a_list_that_is_changed(self):
        start = [6, 5, 4, 0]
        walk = Walk(self.table, start=start)
        self.assertEqual(start, [6, 5, 4, 0])
        start.clear()
        walk.run()
        self.assertEqual((walk.feasible(), walk.ordinal()), ([0, 1, 2, 3], [1, 2, 3, 6]))


class ErrorsTest(unittest.TestCase):
    def setUp(self):
        self.table = Table(pair_book())

    def test_wrong_first_rows_come_ahead_of_wrong_sets(self):
        for value in NO_ROWS:
            for start in (None, [0, 4, 5, 6], [0, 1, 2, 3], "x"):
                with self.assertRaises(InvalidRow) as caught:
                    Walk(self.table, first=value, start=start)
                self.assertEqual(caught.exception.value, value)
            with self.assertRaises(InvalidRow) as caught:
                shares_of(pair_book(), first=value)
            self.assertEqual(caught.exception.value, value)

    def test_wrong_sets(self):
        for value in NO_SETS:
            for first in range(4):
                with self.assertRaises(NotComplete):
                    Walk(self.table, first=first, start=value)

    def test_without_open_deals(self):
        for text, idle in (("book\nend\n", []), (IDLE, [0, 1, 2]), ("book\nroom A 0\norder A :\nend\n", [])):
            table = Table(Book.read(text))
            for first in (0, *NO_ROWS):
                for start in (None, idle, tuple(idle[::-1])):
                    walk = Walk(table, first=first, start=start)
                    self.assertEqual((walk.feasible(), walk.ordinal()), (idle, idle))
                    self.assertEqual((walk.ended, walk.complete), (True, True))
                    self.assertEqual((walk.run(), walk.log()), (0, []))
                    self.assertTrue(walk.found_shares == Shares([]))
                    self.assertTrue(walk.twin().ended)
                    self.assertTrue(shares_of(Book.read(text), first=first) == Shares([]))
                    with self.assertRaises(Finished):
                        walk.step()
                    with self.assertRaises(NothingLeft):
                        walk.back()
                for start in ([9], "x", (*idle, 0), {}, 5, False, Book.empty()):
                    with self.assertRaises(NotComplete):
                        Walk(table, first=first, start=start)

    def test_by_position(self):
        with self.assertRaises(TypeError):
            Walk(self.table, 0)
        with self.assertRaises(TypeError):
            shares_of(pair_book(), 0)


class BackTest(unittest.TestCase):
    def setUp(self):
        self.table = Table(pair_book())

    def state(self, walk):
        return (walk.log(), walk.feasible(), walk.ordinal(), walk.ended, walk.complete, repr(walk),
                [walk.basis().value_of(column) for column in walk.feasible()], walk.basis().below)

    def test_all_steps_back(self):
        for table in (self.table, *chance_tables(8, rooms=3, families=4, size=3, deals=4, seats=4)):
            for first in range(table.many_rows):
                walk = Walk(table, first=first)
                states = [self.state(walk)]
                while not walk.ended:
                    walk.step()
                    states.append(self.state(walk))
                for state in states[::-1][1:]:
                    self.assertIsNone(walk.back())
                    self.assertEqual(self.state(walk), state)
                with self.assertRaises(NothingLeft):
                    walk.back()
                self.assertEqual(self.state(walk), states[0])
                walk.run()
                self.assertEqual(self.state(walk), states[-1])

    def test_from_a_complete_set(self):
        for first in range(4):
            walk = Walk(self.table, first=first, start=[0, 4, 5, 6])
            before = self.state(walk)
            steps = walk.run()
            for _ in range(steps):
                walk.back()
            self.assertEqual(self.state(walk), before)
            self.assertFalse(walk.ended)
            with self.assertRaises(NothingLeft):
                walk.back()

    def test_steps_by_turns(self):
        chance = random.Random(3)
        for table in chance_tables(10, rooms=3, families=4, size=3, deals=4, seats=4):
            plain = Walk(table)
            plain.run()
            walk = Walk(table)
            for _ in range(60):
                if chance.random() < 0.6 and not walk.ended:
                    walk.step()
                elif walk.many_steps:
                    walk.back()
                self.assertEqual(walk.log(), plain.log()[:walk.many_steps])
            walk.run()
            self.assertEqual(self.state(walk), self.state(plain))

    def test_twin(self):
        walk = Walk(self.table, first=1)
        walk.step()
        walk.step()
        before = self.state(walk)
        twin = walk.twin()
        self.assertIsInstance(twin, Walk)
        self.assertIs(twin.table, self.table)
        self.assertEqual(self.state(twin), before)
        twin.run()
        self.assertEqual(self.state(walk), before)
        ended = self.state(twin)
        walk.back()
        walk.back()
        self.assertEqual(self.state(twin), ended)
        for _ in range(5):
            twin.back()
        self.assertEqual(self.state(twin), self.state(walk))
        with self.assertRaises(NothingLeft):
            twin.back()

    def test_twin_of_a_walk_from_a_complete_set(self):
        for first in range(4):
            walk = Walk(self.table, first=first, start=[0, 4, 5, 6])
            twin = walk.twin()
            self.assertEqual(self.state(twin), self.state(walk))
            twin.run()
            walk.run()
            self.assertEqual(self.state(twin), self.state(walk))


def plain_walk(table, first, start=None):
    """The triples of a walk, and its pairs, by the words of [20]."""
    feasible = sorted(start) if start else list(range(table.many_rows))
    columns = sorted(start) if start else first_ordinal(table, first)
    log, pairs = [], [(feasible, columns)]
    while not log or pairs[-1][0] != pairs[-1][1]:
        feasible, columns = pairs[-1]
        if not log:
            put, column = (first not in columns, first) if start else (True, columns[-1])
        else:
            kind, came, left = log[-1]
            put, column = kind == "take", came if kind == "take" else left
        if put:
            left = Basis(table, feasible).leaving(column)
            log.append(("put", column, left))
            pairs.append((sorted({*feasible, column} - {left}), columns))
        else:
            came = replacement(table, columns, column)
            if came is None:
                break
            log.append(("take", came, column))
            pairs.append((feasible, sorted({*columns, came} - {column})))
    return log, pairs


class FactsTest(unittest.TestCase):
    def test_walks_from_the_beginning(self):
        for table in chance_tables(25, rooms=2, families=3, size=3, deals=3, seats=3):
            for first in range(table.many_rows) if table.book.many_open else []:
                self.check_walk(Walk(table, first=first), first)

    def check_walk(self, walk, first, start=None):
        log, pairs = plain_walk(walk.table, first, start)
        # No pair is met twice.
        self.assertEqual(len(pairs), len({(*feasible, *columns) for feasible, columns in pairs}))
        for triple, (feasible, columns) in zip(log, pairs[1:]):
            self.assertFalse(walk.ended)
            self.assertEqual(walk.step(), triple)
            self.assertEqual((walk.feasible(), walk.ordinal()), (feasible, columns))
            self.assertIs(walk.complete, feasible == columns)
            if not walk.complete:
                self.assertEqual([column for column in feasible if column not in columns], [first])
        self.assertTrue(walk.ended)
        if walk.complete:
            self.assertTrue(is_complete(walk.table, walk.feasible()))
            self.assertTrue(is_dominating(walk.table, walk.found_shares))

    def test_all_pairs_of_sets(self):
        told = [0, 0]
        great = [Table(Book.read(text)) for text in (THREE, FIVE)]
        for table in (*great, *chance_tables(40, rooms=2, families=2, size=2, deals=3)):
            complete = list(complete_sets(table))
            for first in range(table.many_rows) if table.book.many_open else []:
                beginning = Walk(table, first=first)
                beginning.run()
                self.assertIn(beginning.feasible(), complete)
                for start in complete:
                    walk = Walk(table, first=first, start=start)
                    self.check_walk(walk, first, start)
                    told[walk.complete] += 1
                    self.assertEqual(not walk.complete, start == beginning.feasible())
                    self.check_way_back(table, first, walk, beginning)
        self.assertGreater(min(told), 10)

    def check_way_back(self, table, first, walk, beginning):
        """Checks that the walk from the end of a walk goes the same way back."""
        again = Walk(table, first=first, start=walk.feasible()) if walk.complete else Walk(table, first=first)
        again.run()
        if not walk.complete:
            self.assertEqual(again.log(), beginning.log())
        self.assertEqual(again.log(), [(kind, left, came) for kind, came, left in walk.log()[::-1]])

    def test_shares_of(self):
        self.assertTrue(shares_of(pair_book()) == Shares([1, 1, 1], below=2))
        self.assertTrue(shares_of(first=1, book=pair_book()) == Shares([1, 1, 1], below=2))
        self.assertEqual([shares_of(Book.read(FIVE), first=first).numbers() for first in range(5)],
                         [[1, 0, 0, 0, 0, 1], [1, 0, 1, 0, 1, 0], [0, 1, 1, 0, 1, 0], [0, 1, 1, 0, 1, 0],
                          [1, 0, 0, 0, 0, 1]])
        self.assertEqual(shares_of(Book.read(FIVE)).numbers(), [1, 0, 0, 0, 0, 1])
        for table in chance_tables(30, rooms=3, families=4, size=2, deals=4, seats=2):
            found = [shares_of(table.book, first=first) for first in range(table.many_rows)]
            for first, shares in enumerate(found):
                walk = Walk(table, first=first)
                walk.run()
                self.assertTrue(walk.found_shares == shares)
                self.assertTrue(is_dominating(table, shares))
            self.assertTrue(shares_of(table.book) == found[0])


class GreatTest(unittest.TestCase):
    def test_books_with_some_dozens_of_deals(self):
        for seed in range(6):
            table = Table(random_book(seed, rooms=6, families=14, size=5, deals=8, seats=7))
            self.assertGreater(table.book.many_open, 24)
            for first in (0, table.many_rows - 1):
                walk = Walk(table, first=first)
                walk.run()
                self.assertTrue(is_dominating(table, walk.found_shares))
                self.check_exact(walk.basis())

    def test_a_book_of_the_greatest_size(self):
        table = Table(random_book(1, rooms=12, families=30, size=4, deals=12, seats=12))
        self.assertGreater(table.book.many_open, 150)
        walk = Walk(table)
        walk.run()
        self.assertTrue(is_dominating(table, walk.found_shares))
        self.check_exact(walk.basis())

    def check_exact(self, basis):
        """Checks the solution of a basis, row by row."""
        table = basis.table
        for row in range(table.many_rows):
            total = [sum(items) for items in zip(*[[item * table.entry(row, column) for item in basis.value_of(column)]
                                                   for column in basis.columns()])]
            self.assertEqual(total, [item * basis.below for item in table.bound(row)])
        self.assertTrue(basis.is_feasible)
        self.assertEqual(basis.below, Basis(table, basis.columns()).below)


if __name__ == "__main__":
    unittest.main()
