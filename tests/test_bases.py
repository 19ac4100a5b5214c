"""nearseats.bases: determinants, independent rows and bases [17] [18]."""

import random
import unittest
from fractions import Fraction

from nearseats.bases import Basis, determinant, independent_rows
from nearseats.books import Book
from nearseats.errors import Dependent, InvalidColumn, InvalidColumns, NotFeasible
from nearseats.shares import Shares
from nearseats.tables import Table

import fractionbases
from randombooks import random_book
from samples import ODD_VALUES, pair_book

NO_LISTS = tuple(value for value in ODD_VALUES if not isinstance(value, (list, tuple)))
NO_COLUMNS = (None, True, False, -1, 7, 10 ** 30, "0", (), (0,), [], [0], {}, {0: 0}, Book.empty())


class DeterminantTest(unittest.TestCase):
    def test_with_its_sign(self):
        self.assertEqual(determinant([[2, 3], [5, 7]]), -1)
        self.assertEqual(determinant([[0, 1], [1, 0]]), -1)
        self.assertEqual(determinant([[0, 1, 0], [0, 0, 1], [1, 0, 0]]), 1)
        self.assertEqual(determinant([[-3]]), -3)
        self.assertEqual(determinant(((2, 0), (0, 5))), 10)
        self.assertEqual(determinant(rows=[[0, 0, 2], [0, -3, 0], [4, 0, 0]]), 24)

    def test_of_no_rows(self):
        self.assertEqual((determinant([]), determinant(())), (1, 1))

    def test_of_dependent_rows(self):
        for rows in ([[0]], [[1, 2], [2, 4]], [[0, 1], [0, 2]], [[1, 2, 3], [4, 5, 6], [7, 8, 9]], [[0, 0], [1, 2]]):
            self.assertEqual(determinant(rows), 0)

    def test_great_integers(self):
        great = 10 ** 900
        self.assertEqual(determinant([[great, 1], [1, great]]), great * great - 1)
        self.assertEqual(determinant([[great, great + 1], [great - 1, great]]), 1)
        self.assertEqual(determinant([[0, great, 0], [-great, 0, 0], [0, 0, great]]), great ** 3)

    def test_as_the_sum_over_all_permutations(self):
        for seed in range(120):
            chance = random.Random(seed)
            many = chance.randint(1, 5)
            rows = [[chance.choice([0, 0, 1, -1, 2, -7, 10 ** 12]) for _ in range(many)] for _ in range(many)]
            kept = [list(row) for row in rows]
            self.assertEqual(determinant(rows), fractionbases.leibniz(rows))
            self.assertEqual(rows, kept)

    def test_independent_rows(self):
        for rows, many in (([], 0), ([[]], 0), ([[], []], 0), ((), 0), ([[0, 0]], 0), ([[0], [3]], 1),
                           ([[1, 2], [2, 4]], 1), ([[1, 2], [2, 5]], 2), ([[1, 0], [0, 1], [1, 1]], 2),
                           ([[0, 0, 1], [0, 0, 2], [0, 3, 0]], 2),
                           ([[1, 2, 3], [4, 5, 6], [7, 8, 9]], 2), ([[0, 1, 2, 3]], 1), (((5,), (-5,), (0,)), 1),
                           ([[10 ** 900, 1], [10 ** 900 + 1, 1]], 2), ([[3 * 10 ** 900, 3], [10 ** 900, 1]], 1)):
            self.assertEqual(independent_rows(rows), many, rows)
        self.assertEqual(independent_rows(rows=[[1]]), 1)

    def test_independent_rows_that_are_made(self):
        for seed in range(120):
            chance = random.Random(seed)
            many = chance.randint(1, 4)
            width = chance.randint(many, 6)
            base = [[chance.randint(-4, 4) for _ in range(width)] for _ in range(many)]
            more = [[sum(factor * row[at] for factor, row in zip(factors, base)) for at in range(width)]
                    for factors in [[chance.randint(-3, 3) for _ in base] for _ in range(3)]]
            rows = base + more
            chance.shuffle(rows)
            told = independent_rows(rows)
            self.assertEqual(told, independent_rows([list(column) for column in zip(*rows)]))
            self.assertEqual(told, independent_rows(base))
            self.assertLessEqual(told, many)


class Bases(unittest.TestCase):
    # The rows are c, d, Oak, Elm; the columns 4 to 6 the open deals c : Oak Elm, d : Oak, d : Elm.
    def setUp(self):
        self.table = Table(pair_book())
        self.half = Basis(self.table, [0, 4, 5, 6])
        self.other = Basis(self.table, [0, 1, 3, 4])


class MadeTest(Bases):
    def test_columns_in_any_order(self):
        for columns in ([0, 4, 5, 6], [6, 5, 4, 0], (4, 0, 6, 5)):
            basis = Basis(self.table, columns)
            self.assertEqual((basis.columns(), basis.below), ([0, 4, 5, 6], 2))
            self.assertIs(basis.table, self.table)
        self.assertTrue(Basis(columns=[0, 4, 5, 6], table=self.table) == self.half)

    def check(self, at, columns):
        with self.assertRaises(InvalidColumns) as caught:
            Basis(self.table, columns)
        self.assertEqual(caught.exception.at, at, columns)

    def test_values_that_are_no_lists(self):
        for value in (*NO_LISTS, "0123", {0: 0, 1: 1, 2: 2, 3: 3}, self.half, Shares([0, 1, 2])):
            self.check(-1, value)

    def test_the_wrong_number_of_items(self):
        for columns in ([], (), [0], [0, 1, 2], [0, 1, 2, 3, 4], [None, None]):
            self.check(-1, columns)

    def test_the_first_wrong_item(self):
        for value in (*NO_COLUMNS, self.half):
            self.check(0, [value, value, 2, 2])
            self.check(1, (0, value, 0, 99))
            self.check(3, [0, 1, 2, value])
        self.check(1, [2, 2, 2, 2])
        self.check(2, [0, 1, 0, 99])
        self.check(3, (6, 5, 4, 5))

    def test_dependent_columns(self):
        # The idle columns of d and Oak make the column of the deal d : Oak.
        for columns in ([0, 1, 2, 5], [1, 2, 5, 4], [3, 6, 1, 0]):
            with self.assertRaises(Dependent):
                Basis(self.table, columns)
        with self.assertRaises(InvalidColumns):
            Basis(self.table, [1, 2, 5, 5])

    def test_without_rows(self):
        table = Table(Book.empty())
        basis = Basis(table, [])
        self.assertEqual((basis.columns(), basis.below, len(basis), repr(basis)), ([], 1, 0, "Basis()"))
        self.assertIs(bool(basis), True)
        self.assertIs(basis.is_feasible, True)
        self.assertTrue(basis.shares() == Shares([]))
        self.assertTrue(basis == Basis.idle(table) == Basis(table, ()))
        for columns in ([0], None, 0):
            with self.assertRaises(InvalidColumns) as caught:
                Basis(table, columns)
            self.assertEqual(caught.exception.at, -1)
        for call in (basis.value_of, basis.weights, basis.leaving, basis.with_column):
            with self.assertRaises(InvalidColumn):
                call(0)


class SolutionTest(Bases):
    def test_values(self):
        # Each of the four columns has the fraction 1 / 2 at first.
        self.assertEqual([self.half.value_of(column) for column in (0, 4, 5, 6)],
                         [(1, 2, 1, -1, -1), (1, 0, -1, 1, 1), (1, 0, 1, 1, -1), (1, 0, 1, -1, 1)])
        self.assertEqual(self.half.value_of(column=4), (1, 0, -1, 1, 1))
        self.assertEqual([self.other.value_of(column) for column in (0, 1, 3, 4)],
                         [(0, 1, 0, -1, 0), (1, 0, 1, 0, 0), (0, 0, 0, -1, 1), (1, 0, 0, 1, 0)])
        self.assertIsInstance(self.half.value_of(0), tuple)

    def test_values_of_other_columns(self):
        for value in (*NO_COLUMNS, 1, 2, 3, self.half):
            with self.assertRaises(InvalidColumn) as caught:
                self.half.value_of(value)
            self.assertEqual(caught.exception.value, value)

    def test_weights(self):
        self.assertEqual([self.half.weights(column) for column in range(7)],
                         [[2, 0, 0, 0], [1, -1, 1, 1], [-1, 1, 1, -1], [-1, 1, -1, 1],
                          [0, 2, 0, 0], [0, 0, 2, 0], [0, 0, 0, 2]])
        self.assertEqual(self.half.weights(column=1), [1, -1, 1, 1])
        self.half.weights(1).clear()
        self.assertEqual(self.half.weights(1), [1, -1, 1, 1])

    def test_weights_of_other_values(self):
        for value in (*NO_COLUMNS, self.half):
            with self.assertRaises(InvalidColumn) as caught:
                self.half.weights(value)
            self.assertEqual(caught.exception.value, value)

    def test_is_feasible(self):
        self.assertIs(self.half.is_feasible, True)
        # The first items of the columns 0 and 3 are 0, and the items behind them decide.
        self.assertIs(self.other.is_feasible, False)
        self.assertIs(Basis(self.table, [0, 1, 2, 4]).is_feasible, True)
        self.assertIs(Basis(self.table, [1, 2, 3, 4]).is_feasible, False)
        self.assertIs(Basis.idle(self.table).is_feasible, True)

    def test_shares(self):
        self.assertTrue(self.half.shares() == Shares([1, 1, 1], below=2))
        self.assertTrue(Basis.idle(self.table).shares() == Shares([0, 0, 0]))
        self.assertTrue(Basis(self.table, [0, 1, 2, 4]).shares() == Shares([1, 0, 0]))
        with self.assertRaises(NotFeasible):
            self.other.shares()

    def test_idle(self):
        basis = Basis.idle(table=self.table)
        self.assertEqual((basis.columns(), basis.below), ([0, 1, 2, 3], 1))
        self.assertEqual([basis.value_of(column) for column in range(4)], [self.table.bound(row) for row in range(4)])
        self.assertEqual(basis.weights(4), [1, 0, 1, 1])


class PutTest(Bases):
    def test_put(self):
        self.assertEqual([self.half.leaving(column) for column in (1, 2, 3)], [6, 4, 4])
        basis = self.half.with_column(1)
        self.assertTrue(basis == Basis(self.table, [0, 1, 4, 5]))
        self.assertEqual(basis.below, 1)
        self.assertEqual([basis.value_of(column) for column in basis.columns()],
                         [Basis(self.table, [0, 1, 4, 5]).value_of(column) for column in (0, 1, 4, 5)])
        self.assertEqual(self.half.columns(), [0, 4, 5, 6])
        self.assertEqual(Basis.idle(self.table).leaving(column=4), 3)
        self.assertEqual(Basis.idle(self.table).with_column(column=4).columns(), [0, 1, 2, 4])

    def test_ties_are_settled_by_the_further_items(self):
        # The rows of d and Oak have the quotients (1, 0, 1, 0, 0) and (1, 0, 0, 1, 0).
        self.assertEqual(Basis.idle(self.table).leaving(5), 2)
        self.assertEqual(Basis.idle(self.table).leaving(6), 3)

    def test_a_basis_that_is_not_feasible_comes_ahead_of_a_wrong_column(self):
        for value in (*NO_COLUMNS, 0, 1, 5):
            for call in (self.other.leaving, self.other.with_column):
                with self.assertRaises(NotFeasible):
                    call(value)

    def test_wrong_columns(self):
        for value in (*NO_COLUMNS, 0, 4, 5, 6, self.half):
            for call in (self.half.leaving, self.half.with_column):
                with self.assertRaises(InvalidColumn) as caught:
                    call(value)
                self.assertEqual(caught.exception.value, value)


class ObjectTest(Bases):
    def test_equality(self):
        self.assertTrue(self.half == Basis(Table(pair_book()), (6, 5, 4, 0)))
        self.assertFalse(self.half != Basis(Table(pair_book()), (6, 5, 4, 0)))
        wider = Book.read(pair_book().text().replace("Oak 1", "Oak 2"))
        for other in (self.other, Basis(Table(wider), [0, 4, 5, 6]), [0, 4, 5, 6], self.table, *ODD_VALUES):
            self.assertFalse(self.half == other)
            self.assertTrue(self.half != other)

    def test_len_truth_and_repr(self):
        self.assertEqual((len(self.half), bool(self.half), repr(self.half)), (4, True, "Basis(0 4 5 6)"))
        self.assertEqual(repr(Basis(self.table, [6, 5, 4, 0])), "Basis(0 4 5 6)")

    def test_lists_that_are_changed(self):
        columns = [0, 4, 5, 6]
        basis = Basis(self.table, columns)
        columns.clear()
        basis.columns().clear()
        self.assertEqual(basis.columns(), [0, 4, 5, 6])


class FractionsTest(unittest.TestCase):
    def tables(self, many):
        for seed in range(many):
            yield Table(random_book(seed, rooms=2, families=2, size=3, deals=2, seats=5))

    def test_all_sets_of_columns(self):
        told = {"dependent": 0, "feasible": 0, "other": 0, "below": 0}
        for table in self.tables(25):
            for columns in fractionbases.column_sets(table):
                solution = fractionbases.solution(table, columns)
                if solution is None:
                    told["dependent"] += 1
                    with self.assertRaises(Dependent):
                        Basis(table, columns)
                else:
                    basis = Basis(table, columns[::-1])
                    self.check_basis(basis, solution)
                    told["feasible" if basis.is_feasible else "other"] += 1
                    told["below"] += basis.below > 1
        self.assertGreater(min(told.values()), 20, told)

    def check_basis(self, basis, solution):
        table = basis.table
        entries = [fractionbases.column_entries(table, column) for column in basis.columns()]
        self.assertEqual(basis.below, abs(fractionbases.leibniz(entries)))
        for column, value in solution.items():
            self.assertEqual(basis.value_of(column), tuple(item * basis.below for item in value))
        self.assertIs(basis.is_feasible, all(fractionbases.is_positive(value) for value in solution.values()))
        for column in range(table.many_columns):
            wanted = fractionbases.coordinates(table, basis.columns(), column)
            self.assertEqual(basis.weights(column), [item * basis.below for item in wanted])

    def test_puts(self):
        puts = 0
        for table in self.tables(25):
            basis = Basis.idle(table)
            chance = random.Random(table.many_columns)
            for _ in range(12):
                free = [column for column in range(table.many_columns) if column not in basis.columns()]
                if free:
                    basis = self.check_put(basis, chance.choice(free))
                    puts += 1
        self.assertGreater(puts, 200)

    def check_put(self, basis, column):
        """Checks the facts of [18], and returns the new basis."""
        told = {other: (tuple(Fraction(item, weight) for item in basis.value_of(other)))
                for other, weight in zip(basis.columns(), basis.weights(column)) if weight > 0}
        self.assertTrue(told)
        self.assertEqual(len(set(told.values())), len(told))
        left = min(told, key=told.get)
        self.assertEqual(basis.leaving(column), left)
        weight = dict(zip(basis.columns(), basis.weights(column)))[left]
        made = basis.with_column(column)
        again = Basis(basis.table, [column if other == left else other for other in basis.columns()])
        self.assertTrue(made == again)
        self.assertEqual((made.below, again.below, made.is_feasible), (weight, weight, True))
        for other in made.columns():
            self.assertEqual(made.value_of(other), again.value_of(other))
        self.assertEqual(made.leaving(left), column)
        return made


if __name__ == "__main__":
    unittest.main()
