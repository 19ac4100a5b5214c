"""nearseats.regions: points, vertices and greatest vertices [24]."""

import random
import unittest

import fractionregions
from fractionregions import fractions_of
from samples import ODD_VALUES

from nearseats.errors import InvalidRegion, InvalidShares, NoPoint, Unbounded
from nearseats.regions import Region
from nearseats.shares import Shares

GOOD = ((1, 2), 3, False)
# The points whose fractions have the sum 1, and the first of which is not above 1/2.
HALF = (2, ((1, 1), 1, True), ((2, 0), 1, False))
NO_ROWS = (*ODD_VALUES, [[1, 2], 3, False], ((1, 2), 3), ((1, 2), 3, False, 0), ((1, 2), 3, 0), ((1, 2), 3, 1),
           ((1, 2), 3, None), ((1, 2), True, False), ((1, 2), "3", False), ((1, 2), None, False), ((1,), 3, False),
           ((1, 2, 3), 3, False), ((1, True), 3, False), ((False, 2), 3, False), ((1, None), 3, False),
           ((1, "2"), 3, False), ({1: 1, 2: 2}, 3, False), ("12", 3, False), (12, 3, False), (None, 3, False),
           ((1, (2,)), 3, False), ((1, 2), (3,), False), (Shares([1, 2]), 3, False))
NO_POINTS = (*ODD_VALUES, [1, 1], (1, 1), Region(*HALF), Shares([]), Shares([1]), Shares([1, 1, 1]),
             Shares([1, 0, 0], below=2))


def greatest_sum(weights, points):
    return max(fractionregions.total(weights, point) for point in points)


class RegionTest(unittest.TestCase):
    def test_rows(self):
        numbers = [1, -2]
        region = Region(2, (numbers, 3, True), ((0, 10 ** 30), -4, False))
        numbers.append(5)
        numbers[0] = 7
        rows = region.rows()
        self.assertEqual(rows, [((1, -2), 3, True), ((0, 10 ** 30), -4, False)])
        self.assertIs(type(rows[0][0]), tuple)
        self.assertEqual([type(row[2]) for row in rows], [bool, bool])
        rows.pop()
        self.assertEqual(len(region.rows()), 2)

    def test_first_wrong_row(self):
        for value in NO_ROWS:
            for at in (0, 1, 2):
                rows = [GOOD, GOOD, GOOD]
                rows[at] = value
                with self.assertRaises(InvalidRegion) as caught:
                    Region(2, *rows)
                self.assertEqual((caught.exception.at, caught.exception.code), (at, "InvalidRegion"))
        with self.assertRaises(InvalidRegion) as caught:
            Region(2, GOOD, None, "")
        self.assertEqual(caught.exception.at, 1)

    def test_rows_of_other_lengths(self):
        for unknowns in (0, 1, 3):
            with self.assertRaises(InvalidRegion) as caught:
                Region(unknowns, GOOD)
            self.assertEqual(caught.exception.at, 0)

    def test_wrong_unknowns_ahead_of_rows(self):
        for value in (None, True, False, -1, "2", (2,), [2], {}, Shares([2])):
            for rows in ((), (GOOD,), (None,)):
                with self.assertRaises(InvalidRegion) as caught:
                    Region(value, *rows)
                self.assertEqual(caught.exception.at, -1)

    def test_kept_things(self):
        for region, told, many in ((Region(*HALF), "Region(2 unknowns, 2 rows)", 2), (Region(0), "Region(0 unknowns, "
                                   "0 rows)", 0), (Region(1, ((1,), 1, False)), "Region(1 unknowns, 1 rows)", 1)):
            self.assertEqual((repr(region), len(region), bool(region)), (told, many, True))

    def test_in(self):
        region = Region(*HALF)
        for point in (Shares([1, 1], below=2), Shares([0, 1]), Shares([1, 3], below=4), Shares([2, 2], below=4)):
            self.assertIs(point in region, True)
        for point in (Shares([1, 0]), Shares([1, 2], below=2), Shares([-1, 2]), Shares([3, 2], below=5),
                      Shares([0, 1], below=2), Shares([0, 0])):
            self.assertIs(point in region, False)

    def test_in_for_any_value(self):
        for value in NO_POINTS:
            self.assertIs(value in Region(*HALF), False)
            self.assertIs(value in Region(2), False)

    def test_shares_below_zero(self):
        for point, told in ((Shares([-1, 0], below=10 ** 30), False), (Shares([0, -1]), False), (Shares([5, 0]), True)):
            self.assertIs(point in Region(2), told)

    def test_no_unknowns(self):
        self.assertIs(Shares([]) in Region(0), True)
        for bound, exact, told in ((0, True, True), (0, False, True), (1, False, True), (1, True, False),
                                   (-1, False, False), (-1, True, False)):
            region = Region(0, ((), bound, exact))
            self.assertIs(Shares([]) in region, told)
            self.assertIs(region.is_empty(), not told)
            if told:
                self.assertEqual(region.greatest([]), Shares([]))
                self.assertIs(region.is_vertex(Shares([])), True)
                self.assertEqual(region.tight(Shares([])), [0] if bound == 0 else [])
            else:
                self.assertRaises(NoPoint, region.greatest, ())

    def test_no_rows(self):
        region = Region(3)
        self.assertIs(region.is_empty(), False)
        self.assertEqual(region.greatest([0, -1, -5]), Shares([0, 0, 0]))
        self.assertEqual(region.tight(Shares([1, 2, 3])), [])
        self.assertEqual([region.is_vertex(Shares(told)) for told in ([0, 0, 0], [0, 1, 0])], [True, False])
        with self.assertRaises(Unbounded) as caught:
            region.greatest([0, 1, -5])
        self.assertEqual(caught.exception.code, "Unbounded")


class PointTest(unittest.TestCase):
    def test_tight(self):
        region = Region(2, ((1, 1), 1, True), ((2, 0), 1, False), ((0, 1), 1, False), ((0, -1), 0, False))
        for point, told in ((Shares([1, 1], below=2), [0, 1]), (Shares([0, 1]), [0, 2]), (Shares([1, 3], below=4), [0])):
            self.assertEqual(region.tight(point), told)

    def test_is_vertex(self):
        region = Region(*HALF)
        for point, told in ((Shares([1, 1], below=2), True), (Shares([0, 1]), True), (Shares([1, 3], below=4), False)):
            self.assertIs(region.is_vertex(point), told)

    def test_rows_that_depend_on_each_other(self):
        rows = (((1, 1), 1, True), ((2, 2), 2, True), ((3, 3), 3, False))
        self.assertIs(Region(2, *rows).is_vertex(Shares([1, 1], below=2)), False)
        self.assertIs(Region(2, *rows, ((1, -1), 0, False)).is_vertex(Shares([1, 1], below=2)), True)
        self.assertIs(Region(2, *rows).is_vertex(Shares([1, 0])), True)

    def test_no_point(self):
        for value in (*NO_POINTS, Shares([1, 0]), Shares([-1, 2])):
            for method in (Region(*HALF).tight, Region(*HALF).is_vertex):
                with self.assertRaises(NoPoint) as caught:
                    method(value)
                self.assertEqual(caught.exception.code, "NoPoint")

    def test_all_corners_are_vertices(self):
        chance = random.Random(7)
        many = 0
        for _ in range(200):
            unknowns = chance.randint(1, 3)
            rows = fractionregions.random_rows(chance, unknowns, chance.randint(0, 4))
            region = Region(unknowns, *rows)
            found = fractionregions.corners(unknowns, rows)
            for point in found:
                shares = fractionregions.shares_of(point)
                self.assertTrue(shares in region and region.is_vertex(shares))
                sums = [fractionregions.total(numbers, point) for numbers, _, _ in rows]
                self.assertEqual(region.tight(shares), [at for at, row in enumerate(rows) if sums[at] == row[1]])
            for one, other in zip(found, found[1:]):
                middle = [(here + there) / 2 for here, there in zip(one, other)]
                self.assertIs(fractionregions.shares_of(middle) in region, True)
                self.assertIs(region.is_vertex(fractionregions.shares_of(middle)), middle in found)
                many += 1
        self.assertGreater(many, 50)


class GreatestTest(unittest.TestCase):
    def check(self, unknowns, rows, weights):
        """Which of the three ends greatest comes to, checked by a full list of the corners."""
        region = Region(unknowns, *rows)
        points = fractionregions.corners(unknowns, rows)
        self.assertIs(region.is_empty(), not points)
        try:
            point = region.greatest(weights)
        except NoPoint:
            self.assertEqual(points, [])
            return "empty"
        except Unbounded:
            self.assertNotEqual(points, [])
            wide = [*rows, ((1,) * unknowns, 10 ** 9, False)]
            self.assertGreater(greatest_sum(weights, fractionregions.corners(unknowns, wide)), 10 ** 5)
            return "unbounded"
        self.assertIsInstance(point, Shares)
        self.assertTrue(point in region and region.is_vertex(point))
        self.assertEqual(fractionregions.total(weights, fractions_of(point)), greatest_sum(weights, points))
        self.assertEqual(region.greatest(weights=tuple(weights)), point)
        return "greatest"

    def test_beside_all_corners(self):
        chance = random.Random(11)
        told = {"empty": 0, "unbounded": 0, "greatest": 0}
        for _ in range(500):
            unknowns = chance.randint(0, 3)
            rows = fractionregions.random_rows(chance, unknowns, chance.randint(0, 4))
            told[self.check(unknowns, rows, [chance.randint(-3, 3) for _ in range(unknowns)])] += 1
        self.assertGreater(min(told.values()), 70)

    def test_weights(self):
        rows = HALF[1:]
        for weights, numbers, below in (([1, 0], [1, 1], 2), ([0, 1], [0, 1], 1), ([-5, -6], [1, 1], 2),
                                        ([-10 ** 40, -10 ** 40 - 1], [1, 1], 2), ([10 ** 40, 10 ** 40 + 1], [0, 1], 1)):
            self.assertEqual(Region(2, *rows).greatest(weights), Shares(numbers, below=below))
        self.assertEqual(self.check(2, rows, [0, 0]), "greatest")

    def test_many_digits(self):
        big = 10 ** 30
        rows = [((big, big + 1), big * big, False), ((big + 7, big - 3), big * big + 1, False), ((1, -1), -5, False)]
        for weights in ([1, 1], [big, -big], [big + 9, 3], [-1, 0]):
            self.assertEqual(self.check(2, rows, weights), "greatest")

    def test_rows_that_contradict_each_other(self):
        for rows in ([((1, 1), 1, True), ((1, 1), 2, True)], [((1, 1), 1, True), ((2, 2), 3, True)],
                     [((1, 0), 1, False), ((-1, 0), -2, False)], [((1, 1), -1, False)], [((1, 1), -1, True)],
                     [((0, 0), 1, True)], [((0, 0), -1, False)]):
            for weights in ([0, 0], [1, 1], [-1, 0]):
                self.assertEqual(self.check(2, rows, weights), "empty")

    def test_rows_that_depend_on_each_other(self):
        rows = [((1, 1), 1, True), ((1, 1), 1, True), ((-2, -2), -2, True), ((0, 0), 0, True), ((3, 3), 3, False)]
        for weights in ([0, 0], [1, 2], [-1, -2]):
            self.assertEqual(self.check(2, rows, weights), "greatest")

    def test_points_beyond_a_bound_below_zero(self):
        rows = [((-1, -1), -3, False), ((1, 0), 2, False), ((0, 1), 2, False)]
        for weights in ([0, 0], [1, 2], [-1, -2], [-2, -1]):
            self.assertEqual(self.check(2, rows, weights), "greatest")

    def test_wrong_weights(self):
        region = Region(2, ((1, 1), -1, True))
        for value in (*ODD_VALUES, [1, 2], (1, 2, 4, 5), (1, None), {1: 1, 2: 2, 3: 3}, "123", Shares([1, 2, 3])):
            with self.assertRaises(InvalidShares) as caught:
                Region(3, ((1, 1, 1), -1, True)).greatest(value)
            self.assertEqual(caught.exception.at, -1)
        for value in ("1", None, True, False, (1,), [1], {}, Shares([1])):
            for weights, at in (([value, 1], 0), ((1, value), 1), ([value, value], 0)):
                with self.assertRaises(InvalidShares) as caught:
                    region.greatest(weights)
                self.assertEqual(caught.exception.at, at)
        with self.assertRaises(InvalidShares) as caught:
            Region(0).greatest(None)
        self.assertEqual(caught.exception.at, -1)

    def test_order_of_the_errors(self):
        self.assertRaises(InvalidShares, Region(2, ((0, 0), 1, True)).greatest, [1, None])
        self.assertRaises(NoPoint, Region(2, ((1, 0), -1, True)).greatest, [0, 1])
        self.assertRaises(NoPoint, Region(2, ((1, -1), -1, False), ((1, -1), 1, False), ((-1, 1), 0, False)).greatest,
                          [1, 1])
        self.assertRaises(Unbounded, Region(2, ((1, 0), 1, True)).greatest, [0, 1])

    def test_weights_are_not_changed(self):
        weights = [1, 2]
        Region(*HALF).greatest(weights)
        self.assertEqual(weights, [1, 2])

    def test_dozens_of_unknowns_and_rows(self):
        chance = random.Random(3)
        for unknowns, many, big in ((40, 40, 9), (60, 36, 3), (24, 24, 10 ** 30)):
            inside = [chance.randint(0, 3) for _ in range(unknowns)]
            rows = [((1,) * unknowns, 10 * unknowns, False)]
            for at in range(many):
                numbers = tuple(chance.randint(-big, big) for _ in range(unknowns))
                total = sum(number * item for number, item in zip(numbers, inside))
                rows.append((numbers, total, True) if at % 3 == 0 else (numbers, total + chance.randint(0, big), False))
            region = Region(unknowns, *rows)
            weights = [chance.randint(-9, 9) for _ in range(unknowns)]
            point = region.greatest(weights)
            self.assertTrue(point in region and region.is_vertex(point))
            least = sum(weight * item for weight, item in zip(weights, inside))
            self.assertGreaterEqual(fractionregions.total(weights, fractions_of(point)), least)
            self.assertIs(region.is_empty(), False)
            self.assertIs(Region(unknowns, *rows, ((1,) * unknowns, -1, False)).is_empty(), True)


if __name__ == "__main__":
    unittest.main()
