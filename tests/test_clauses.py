"""nearseats.clauses: wishes, ways and clauses [8]."""

import itertools
import unittest

from nearseats import clauses
from nearseats.clauses import MOST, lets, listed, ways
from nearseats.errors import InvalidClause, InvalidWishes
from nearseats.roads import Roads

from samples import ODD_VALUES

ROADS = Roads(["A", "B", "C", "D"], [("A", "B", 2), ("B", "C", 3)])
ALL_CLAUSES = (("together",), ("within", 2), ("any",), ("drop", 1))
WRONG_CLAUSES = (*ODD_VALUES, "together", "any", ["together"], ["within", 2], ["drop", 0], ("Together",), ("all",),
                 ("together", 1), ("any", 0), ("within",), ("drop",), ("within", 1, 1), ("drop", 1, None),
                 ("within", -1), ("drop", -1), ("within", True), ("drop", True), ("drop", False), ("within", None),
                 ("within", "1"), ("drop", (1,)), ("drop", [1]), ("within", ROADS), (["any"],), (None, 1), (("any",),),
                 ({}, 1), (1, "drop"), ("together", "any"))


def slow_ways(wishes):
    """The ways by their definition: all of them, sorted by cost and then by the places."""
    rows = []
    for places in itertools.product(*[range(len(rooms) + 1) for rooms in wishes]):
        way = tuple([*rooms, "-"][place] for rooms, place in zip(wishes, places))
        if set(way) != {"-"}:
            rows.append((sum(places), places, way))
    return [way for _, _, way in sorted(rows)]


class WaysTest(unittest.TestCase):
    def test_one_member(self):
        self.assertEqual(ways([["B", "A", "C"]]), [("B",), ("A",), ("C",)])
        self.assertEqual(ways([[]]), [])

    def test_two_members(self):
        self.assertEqual(ways(wishes=[["A", "B"], ["B", "C"]]),
                         [("A", "B"), ("A", "C"), ("B", "B"), ("A", "-"), ("B", "C"), ("-", "B"), ("B", "-"),
                          ("-", "C")])

    def test_three_members(self):
        self.assertEqual(ways([["A"], ["B"], ["A"]]),
                         [("A", "B", "A"), ("A", "B", "-"), ("A", "-", "A"), ("-", "B", "A"), ("A", "-", "-"),
                          ("-", "B", "-"), ("-", "-", "A")])

    def test_empty_lists_of_wishes(self):
        self.assertEqual(ways([[], ["B", "A"]]), [("-", "B"), ("-", "A")])
        self.assertEqual(ways([["A"], [], []]), [("A", "-", "-")])
        self.assertEqual(ways([[], [], []]), [])

    def test_the_order_of_ways_and_none_twice(self):
        lists = ([], ["A"], ["B", "A"], ["C", "A", "B"], ["A", "B", "C", "D"])
        for size in (1, 2, 3):
            for wishes in itertools.product(lists, repeat=size):
                found = ways(list(wishes))
                self.assertEqual(found, slow_ways(wishes))
                self.assertEqual(len(found), len(set(found)))

    def test_tuples(self):
        self.assertEqual(ways((("A", "B"), ("C",))), ways([["A", "B"], ["C"]]))


class InvalidWishesTest(unittest.TestCase):
    def check(self, at, wishes):
        for call in (lambda: ways(wishes), lambda: listed(wishes, [("any",)], ROADS),
                     lambda: listed(wishes, [None], ROADS)):
            with self.assertRaises(InvalidWishes) as caught:
                call()
            self.assertEqual(caught.exception.at, at, wishes)

    def test_the_whole(self):
        for value in ODD_VALUES:
            if not isinstance(value, (list, tuple)) or not value:
                self.check(-1, value)
        self.check(-1, "A")
        self.check(-1, {0: ["A"]})

    def test_items(self):
        wrong = [value for value in ODD_VALUES if not isinstance(value, (list, tuple))]
        wrong += ["A", ["A", "A"], ("B", "A", "B"), ["-"], ["A", "-"], ["A", None], ["A", 1], [["A"]], [("A",)], [True],
                  [{}], ["A "], [""], ["c.1"], [[]], [ROADS]]
        for value in wrong:
            self.check(0, [value])
            self.check(2, [["A"], [], value, None])
            self.check(1, (("A",), value, []))


class LetsTest(unittest.TestCase):
    def check(self, clause, let, others):
        for way in let:
            self.assertIs(lets(clause, way, ROADS), True, (clause, way))
        for way in others:
            self.assertIs(lets(clause, way, ROADS), False, (clause, way))

    def test_together(self):
        self.check(("together",), [("A",), ("B", "B"), ("C", "C", "C")],
                   [("A", "B"), ("A", "-"), ("-", "A"), ("C", "C", "-"), ("C", "C", "B")])

    def test_within(self):
        self.check(("within", 0), [("A",), ("B", "B")], [("A", "B"), ("B", "-")])
        self.check(("within", 1), [("A",), ("B", "B")], [("A", "B")])
        self.check(("within", 2), [("A", "B"), ("B", "A", "A")], [("B", "C"), ("A", "C"), ("A", "B", "-")])
        self.check(("within", 4), [("C", "B"), ("A", "B", "B")], [("A", "C"), ("A", "B", "C"), ("C", "B", "A")])
        self.check(("within", 5), [("A", "B", "C"), ("C", "A")], [("A", "D"), ("D", "A", "D"), ("-", "D"), ("A", "-")])
        self.check(("within", 999999999), [("D", "D")], [("A", "D")])

    def test_any(self):
        self.check(("any",), [("A",), ("A", "D"), ("B", "B")], [("A", "-"), ("-", "D", "A")])

    def test_drop(self):
        self.check(("drop", 0), [("A",), ("A", "D")], [("A", "-"), ("-", "-", "A")])
        self.check(("drop", 1), [("A", "D"), ("-", "D"), ("A", "-", "A")], [("A", "-", "-")])
        self.check(("drop", 5), [("A", "-", "-"), ("-", "A")], [])

    def test_by_name(self):
        self.assertIs(lets(roads=ROADS, way=("A",), clause=("any",)), True)

    def test_wrong_clauses(self):
        for clause in WRONG_CLAUSES:
            with self.assertRaises(InvalidClause) as caught:
                lets(clause, ("A", "B"), ROADS)
            self.assertEqual(caught.exception.at, 0, clause)


class ListedTest(unittest.TestCase):
    def test_the_example(self):
        roads = Roads(["Oak", "Elm", "Ash"], [("Oak", "Elm", 2), ("Elm", "Ash", 3)])
        self.assertEqual(listed([["Oak", "Elm"], ["Elm", "Ash"]], [("within", 2), ("drop", 1)], roads, most=5),
                         [("Oak", "Elm"), ("Elm", "Elm"), ("Oak", "Ash"), ("Oak", "-"), ("Elm", "Ash")])

    def test_each_clause_adds_what_is_not_listed_already(self):
        wishes = [["A", "B"], ["B", "A"]]
        self.assertEqual(listed(wishes, [("together",)], ROADS), [("A", "A"), ("B", "B")])
        self.assertEqual(listed(wishes, [("together",), ("any",)], ROADS),
                         [("A", "A"), ("B", "B"), ("A", "B"), ("B", "A")])
        self.assertEqual(listed(wishes, [("any",), ("together",)], ROADS),
                         [("A", "B"), ("A", "A"), ("B", "B"), ("B", "A")])

    def test_several_clauses_follow_their_definition(self):
        wishes = [["A", "B", "C"], ["D", "B"], ["B"]]
        for row in itertools.product(ALL_CLAUSES, repeat=3):
            wanted = []
            for clause in row:
                wanted += [way for way in slow_ways(wishes) if lets(clause, way, ROADS) and way not in wanted]
            self.assertEqual(listed(wishes, list(row), ROADS), wanted[:24])

    def test_a_clause_twice_and_no_clause(self):
        wishes = [["A", "B"], ["B"]]
        for clause in ALL_CLAUSES:
            self.assertEqual(listed(wishes, [clause, clause], ROADS), listed(wishes, [clause], ROADS))
        self.assertEqual(listed(wishes, [], ROADS), [])
        self.assertEqual(listed(wishes, (), ROADS), [])

    def test_most(self):
        wishes = [["A", "B", "C", "D"], ["D", "C", "B", "A"], ["B", "A"]]
        every = slow_ways(wishes)
        self.assertEqual(len(every), 74)
        self.assertEqual(MOST, 24)
        self.assertIs(type(clauses.MOST), int)
        self.assertEqual(listed(wishes, [("drop", 3)], ROADS), every[:24])
        for most in (0, 1, 2, 23, 24, 25, 73, 74, 75, 999999999):
            self.assertEqual(listed(wishes, [("drop", 3)], ROADS, most=most), every[:most])

    def test_no_way(self):
        self.assertEqual(listed([[], []], list(ALL_CLAUSES), ROADS), [])
        self.assertEqual(listed([["A"], []], [("any",), ("together",), ("within", 9), ("drop", 0)], ROADS), [])
        self.assertEqual(listed([["A"], []], [("drop", 1)], ROADS), [("A", "-")])

    def test_wrong_clauses(self):
        for wrong in WRONG_CLAUSES:
            for at, row in ((0, [wrong]), (2, [("any",), ("drop", 0), wrong]), (1, (("any",), wrong, None))):
                for most in (0, 24):
                    with self.assertRaises(InvalidClause) as caught:
                        listed([["A"]], row, ROADS, most=most)
                    self.assertEqual(caught.exception.at, at)

    def test_arguments_stay_as_they_were(self):
        wishes, row = [["A", "B"], ["B"]], [("drop", 1), ("any",)]
        listed(wishes, row, ROADS).clear()
        ways(wishes).clear()
        self.assertEqual((wishes, row), ([["A", "B"], ["B"]], [("drop", 1), ("any",)]))
        self.assertEqual(listed(wishes=wishes, clauses=row, roads=ROADS, most=1), [("A", "B")])
        with self.assertRaises(TypeError):
            listed(wishes, row, ROADS, 1)


class SizeTest(unittest.TestCase):
    def test_nearly_5000_ways_of_few_members(self):
        rooms = [f"R{at}" for at in range(16)]
        roads = Roads(rooms, [(rooms[at], rooms[at + 1], 1) for at in range(15)])
        wishes = [rooms, rooms[::-1], rooms[3:] + rooms[:3]]
        every = ways(wishes)
        self.assertEqual(len(every), 17 ** 3 - 1)
        self.assertEqual(every, slow_ways(wishes))
        for clause in ALL_CLAUSES:
            wanted = [way for way in every if lets(clause, way, roads)]
            self.assertEqual(listed(wishes, [clause], roads, most=5000), wanted)
        self.assertEqual(listed(wishes, list(ALL_CLAUSES), roads, most=9999)[:16],
                         [way for way in every if len(set(way)) == 1])

    def test_nearly_5000_ways_of_many_members(self):
        wishes = [["A"]] * 12
        every = ways(wishes)
        self.assertEqual((len(every), every[0], every[-1]), (4095, ("A",) * 12, ("-",) * 11 + ("A",)))
        self.assertEqual(every, slow_ways(wishes))
        self.assertEqual(len(listed(wishes, [("drop", 2)], ROADS, most=5000)), 1 + 12 + 66)

    def test_nearly_5000_ways_of_one_member(self):
        rooms = [f"R{at}" for at in range(4999)]
        self.assertEqual(ways([rooms]), [(room,) for room in rooms])
        self.assertEqual(listed([rooms], [("together",)], Roads(rooms[:1], []), most=5000), ways([rooms]))


if __name__ == "__main__":
    unittest.main()
