"""nearseats.rules: rules texts and the books that they make [9]."""

import itertools
import random
import unittest

from nearseats.books import Book
from nearseats.clauses import listed
from nearseats.errors import BadRules
from nearseats.roads import Roads
from nearseats.rules import read_rules

from samples import ODD_VALUES, PAIR, pair_book

# The lines of a text into which wrong lines are put.
LINES = ["rules",
         "room Oak 3",
         "room Elm 2",
         "room Ash 1",
         "road Oak Elm 2",
         "road Elm Ash 3",
         "family c 2 by within 2 drop 1",
         "member c.1 : Oak Elm",
         "member c.2 : Elm Ash",
         "family d 1 : Oak | Elm",
         "family e 1 by any",
         "member e.1 :",
         "order Oak : c.1 d.1",
         "points Elm : c.1 5 c.2 7 d.1 5 e.1 0",
         "points Ash :",
         "end"]
ROADS = Roads(["Oak", "Elm", "Ash"], [("Oak", "Elm", 2), ("Elm", "Ash", 3)])


def text_of(lines):
    return "".join(line + "\n" for line in lines)


def one_family(clauses, *members, roads=()):
    """The deals that a family c gets by these words and wishes."""
    lines = ["rules", "room Oak 9", "room Elm 9", "room Ash 9", *roads, f"family c {len(members)} by {clauses}"]
    lines += [" ".join([f"member c.{k} :", *rooms]) for k, rooms in enumerate(members, start=1)]
    return read_rules(text_of([*lines, "order Oak :", "order Elm :", "order Ash :", "end"])).deals("c")


class MadeBooksTest(unittest.TestCase):
    def test_the_book_of_the_lists(self):
        deals = listed([["Oak", "Elm"], ["Elm", "Ash"]], [("within", 2), ("drop", 1)], ROADS)
        book = Book([("Oak", 3), ("Elm", 2), ("Ash", 1)],
                    [("c", 2, deals), ("d", 1, [("Oak",), ("Elm",)]), ("e", 1, [])],
                    [["c.1", "d.1"], ["c.2", "c.1", "d.1", "e.1"], []])
        self.assertTrue(read_rules(text_of(LINES)) == book)
        self.assertTrue(read_rules(text=text_of(LINES)) == book)
        self.assertEqual(read_rules(text_of(LINES)).text(), book.text())

    def test_a_text_of_a_book_with_another_title(self):
        self.assertTrue(read_rules(PAIR.replace("book", "rules")) == pair_book())
        self.assertTrue(read_rules("rules\nend\n") == Book.empty())
        self.assertEqual(read_rules("rules\nfamily c 2 :\nend\n").text(), "book\nfamily c 2 :\nend\n")

    def test_each_clause(self):
        wishes = (["Oak", "Elm"], ["Elm", "Ash"])
        roads = ("road Oak Elm 2", "road Elm Ash 3")
        for words, clauses in (("together", [("together",)]), ("any", [("any",)]), ("within 0", [("within", 0)]),
                               ("within 4", [("within", 4)]), ("drop 0", [("drop", 0)]), ("drop 1", [("drop", 1)]),
                               ("within 999999999", [("within", 999999999)]), ("any any", [("any",)]),
                               ("together within 2 any drop 1", [("together",), ("within", 2), ("any",), ("drop", 1)]),
                               ("drop 1 drop 1 together", [("drop", 1)])):
            self.assertEqual(one_family(words, *wishes, roads=roads), listed(wishes, clauses, ROADS), words)

    def test_without_roads_only_the_same_room_is_near(self):
        self.assertEqual(one_family("within 9", ["Oak", "Elm"], ["Elm", "Oak"]), [("Oak", "Oak"), ("Elm", "Elm")])

    def test_only_the_first_24_deals_are_kept(self):
        rooms = ["Oak", "Elm", "Ash"]
        deals = one_family("drop 3", rooms, rooms, rooms)
        self.assertEqual(len(deals), 24)
        self.assertEqual(deals, listed([rooms] * 3, [("drop", 3)], ROADS))

    def test_no_wishes(self):
        self.assertEqual(one_family("any", [], ["Oak"]), [])
        self.assertEqual(one_family("drop 2", [], ["Oak"]), [("-", "Oak")])

    def test_deals_that_fall_away(self):
        book = read_rules("rules\nroom Oak 1\nfamily c 2 by drop 1\nmember c.1 : Oak\nmember c.2 : Oak\n"
                          "points Oak : c.2 4\nend\n")
        self.assertEqual(book.deals("c"), [("Oak", "Oak"), ("Oak", "-"), ("-", "Oak")])
        self.assertEqual([book.deal(number) for number in range(book.many_open)], [("-", "Oak")])


class PointsTest(unittest.TestCase):
    def order(self, points):
        return read_rules(f"rules\nroom A 1\nfamily b 12 :\nfamily a 2 :\npoints A : {points}\nend\n").order("A")

    def test_more_points_come_first(self):
        self.assertEqual(self.order("a.1 2 b.1 10 a.2 999999999 b.2 0"), ["a.2", "b.1", "a.1", "b.2"])

    def test_equal_points_by_the_family_and_then_by_the_number(self):
        self.assertEqual(self.order("a.2 5 b.10 5 a.1 5 b.2 5 b.9 5"), ["b.2", "b.9", "b.10", "a.1", "a.2"])
        self.assertEqual(self.order("a.1 0 b.2 1 b.11 0 b.3 0"), ["b.2", "b.3", "b.11", "a.1"])

    def test_each_order_of_the_pairs_is_the_same(self):
        pairs = ("a.1 3", "b.12 3", "b.2 4", "a.2 0")
        for row in itertools.permutations(pairs):
            self.assertEqual(self.order(" ".join(row)), ["b.2", "b.12", "a.1", "a.2"])

    def test_members_without_points_are_not_taken(self):
        self.assertEqual(self.order("b.3 1"), ["b.3"])
        self.assertEqual(read_rules("rules\nroom A 1\nfamily b 2 :\npoints A :\nend\n").order("A"), [])


class Faults(unittest.TestCase):
    def check(self, line, why, text):
        with self.assertRaises(BadRules) as caught:
            read_rules(text)
        self.assertEqual((caught.exception.line, caught.exception.why), (line, why), text)

    def check_line(self, at, why, *lines):
        for line in lines:
            self.check(at, why, text_of([*LINES[:at], line, *LINES[at + 1:]]))


class FormTest(Faults):
    def test_values_that_are_no_strings(self):
        for value in (*(value for value in ODD_VALUES if not isinstance(value, str)), pair_book()):
            self.check(0, "form", value)

    def test_first_line(self):
        self.check_line(0, "form", "", "book", "rules ", "Rules", "room Oak 3", "road Oak Elm 2", "end",
                        "points Oak :", "family c 1 by any", "member c.1 : Oak")

    def test_room(self):
        self.check_line(1, "form", "room Oak", "room Oak 01", "room - 1", "room Oak 1000000000", "rules", "room Oak 3 ")

    def test_road(self):
        self.check_line(4, "form", "road", "road Oak Elm", "road Oak Elm 0", "road Oak Elm 00", "road Oak Elm 02",
                        "road Oak Elm -1", "road Oak Elm 1000000000", "road Oak - 2", "road - Elm 2", "road Oak Elm 2 ",
                        "road  Oak Elm 2", "road Oak Elm two", "road Oak Elm 2 2", "road Oak Pine 0", "road Oak Oak 0",
                        "road Oak 2 Elm")

    def test_rooms_and_roads_in_their_places(self):
        self.check_line(5, "form", "room Fir 1")
        self.check_line(9, "form", "room Fir 1", "road Oak Elm 2")
        self.check_line(13, "form", "room Fir 1", "road Oak Elm 2", "family f 1 :", "family f 1 by any",
                        "member d.1 : Oak")
        self.check(2, "form", "rules\nfamily c 1 :\nroad A B 1\n")
        self.check(2, "form", "rules\nend\nroad A B 1\n")

    def test_family(self):
        self.check_line(9, "form", "family d 1", "family d 1 :  Oak", "family d 2 : Oak", "family d 0 :",
                        "family d 1 : Oak |", "family d 1 | any", "family - 1 : Oak")

    def test_family_with_clauses(self):
        self.check_line(6, "form", "family c 2 by", "family c 2 by ", "family c 0 by any", "family c 02 by any",
                        "family c by any", "family 2 c by any", "family c 2 by  any", "family c 2 by any ",
                        "family c 2 by all", "family c 2 by within", "family c 2 by within any", "family c 2 by drop",
                        "family c 2 by within 02", "family c 2 by within -1", "family c 2 by drop 1000000000",
                        "family c 2 by any 1", "family c 2 by together 2", "family c 2 by within 2 3",
                        "family c 2 by any drop", "family c 2 by Any", "family c 2 by any | any",
                        "family c 2 by : any", "family - 2 by any", "family c 2 By any", "family c 2 by any, drop 1",
                        "group c 2 by any", "room c 2 by any", "order c 2 by any", "member c 2 by any")

    def test_member(self):
        self.check_line(7, "form", "member", "member c.1", "member c.1 Oak", "member c.1 : ", "member c.1 :  Oak",
                        "member c.1 : Oak ", "member c.1 : -", "member c.1 : Oak -", "member c.1 : Oak | Elm",
                        "member c : Oak", "member c.0 : Oak", "member c.01 : Oak", "member c 1 : Oak",
                        "member c.1 : Oak 1", "member c.1: Oak", "member : Oak", "members c.1 : Oak",
                        "order c.1 : Oak", "points c.1 :", "room c.1 : Oak", "family c.1 : Oak")

    def test_nothing_else_may_stand_where_a_member_must(self):
        for at in (7, 8, 11):
            self.check_line(at, "form", "family d 1 : Oak", "family x 1 by any", "order Oak : c.1", "points Oak :",
                            "end", "room Fir 1", "road Oak Elm 2", "", "rules")

    def test_a_member_behind_its_family(self):
        self.check_line(9, "form", "member c.3 : Oak", "member c.1 : Oak", "member d.1 : Oak")
        self.check_line(6, "form", "member c.1 : Oak")
        self.check_line(10, "form", "member d.1 : Oak")

    def test_order(self):
        self.check_line(12, "form", "order Oak", "order Oak : ", "order Oak : c.0", "order Oak : c.1 5",
                        "order Oak : -", "order Oak : c.1  d.1", "order - :")

    def test_points(self):
        self.check_line(13, "form", "points", "points Elm", "points Elm : ", "points Elm : c.1", "points Elm : c.1 5 ",
                        "points Elm : c.1 05", "points Elm : c.1 -5", "points Elm : c.1 1000000000",
                        "points Elm : 5 c.1", "points Elm : c.1 c.2", "points Elm : c.1 5 c.2", "points Elm : c 5",
                        "points Elm : c.0 5", "points Elm :  c.1 5", "points Elm : c.1  5", "points Elm c.1 5",
                        "points - : c.1 5", "points Elm : c.1 5, d.1 6", "points Elm : - 5", "points Elm : c.1:5")

    def test_exactly_as_many_orders_as_rooms(self):
        self.check_line(13, "form", "end")
        self.check_line(14, "form", "end")
        for line in ("order Ash :", "points Ash :", "points Oak : c.1 5", "order Oak : c.1"):
            self.check_line(15, "form", line)
        self.check(1, "form", "rules\npoints Oak :\nend\n")
        self.check(2, "form", "rules\nroom Oak 1\nend\n")

    def test_end(self):
        self.check_line(15, "form", "", "End", "end ", "room Fir 1", "road Oak Elm 1", "family f 1 by any",
                        "family f 1 :", "member e.1 :")

    def test_a_line_without_its_line_feed(self):
        for many in range(1, len(LINES) + 1):
            self.check(many - 1, "form", text_of(LINES[:many])[:-1])

    def test_behind_end(self):
        for line in ("", "end", "rules", "room Fir 1", "road Oak Elm 1", "points Oak :", "family f 1 by any",
                     "member e.1 :", "x"):
            self.check(16, "form", text_of([*LINES, line]))
            self.check(2, "form", text_of(["rules", "end", line]))


class OtherWordsTest(Faults):
    def test_name_of_rooms_and_roads(self):
        self.check_line(2, "name", "room Oak 1")
        self.check_line(4, "name", "road Oak Pine 2", "road Pine Elm 2", "road Pine Pine 2", "road c Oak 1")
        self.check(1, "name", "rules\nroad A B 1\nend\n")

    def test_name_of_families(self):
        self.check_line(9, "name", "family c 1 : Oak", "family d 1 : Pine", "family d 1 : Oak | Pine")
        self.check_line(10, "name", "family c 1 by any", "family d 1 by any", "family d 3 by drop 2")

    def test_name_of_members(self):
        self.check_line(7, "name", "member c.2 : Oak", "member d.1 : Oak", "member c.3 : Oak", "member c.1 : Pine",
                        "member c.1 : Oak Pine")
        self.check_line(8, "name", "member c.1 : Oak", "member c.3 : Oak", "member e.2 : Oak", "member c.2 : c")

    def test_name_of_orders(self):
        self.check_line(12, "name", "order Elm : c.1", "order Pine :", "order Oak : f.1", "order Oak : c.3",
                        "points Elm : c.1 5", "points Pine :", "points Oak : f.1 5", "points Oak : c.3 5")
        self.check_line(13, "name", "points Oak : c.1 5", "order Oak :", "points Ash :", "points Elm : c.1 5 x.1 6")

    def test_empty(self):
        self.check_line(9, "empty", "family d 1 : -", "family d 2 : Oak - | - -")

    def test_double(self):
        self.check_line(4, "double", "road Oak Oak 2")
        self.check_line(7, "double", "member c.1 : Oak Oak", "member c.1 : Elm Oak Elm")
        self.check_line(9, "double", "family d 1 : Oak | Oak")
        self.check_line(12, "double", "order Oak : c.1 c.1")
        self.check_line(13, "double", "points Elm : c.1 5 c.1 5", "points Elm : c.1 5 d.1 5 c.1 6")

    def test_the_first_word_that_applies(self):
        self.check_line(4, "form", "road Pine Pine 0", "road Oak Oak x")
        self.check_line(6, "form", "family c 2 by any within")
        self.check_line(7, "form", "member c.2 : Pine Pine -")
        self.check_line(7, "name", "member c.1 : Oak Oak Pine", "member c.2 : Oak Oak")
        self.check_line(9, "name", "family c 1 : - | -")
        self.check_line(9, "empty", "family d 1 : Oak | Oak | -")
        self.check_line(10, "form", "family c 1 by", "family c 0 by any")
        self.check_line(13, "form", "points Oak : f.1 5 f.1")
        self.check_line(13, "name", "points Elm : f.1 5 f.1 5", "points Oak : c.1 5 c.1 5")

    def test_missing(self):
        for many in range(len(LINES)):
            self.check(many, "missing", text_of(LINES[:many]))

    def test_two_faults_in_one_text(self):
        self.check(4, "double", text_of([*LINES[:4], "road Oak Oak 1", "road Oak Elm 0"]))
        self.check(5, "form", text_of([*LINES[:5], "road Oak Elm 0", "room Oak 1"]))
        self.check(7, "name", text_of([*LINES[:7], "member c.2 : Oak", "end"]))
        self.check(12, "double", text_of([*LINES[:12], "points Oak : d.1 1 d.1 1", "points Oak :"]))

    def test_changed_texts_are_refused_with_a_word_and_a_line_of_theirs(self):
        source = random.Random(9)
        signs = "rules room road family by within drop any member points order end Oak c.1 d : | -012\n"
        text = text_of(LINES)
        for _ in range(4000):
            at = source.randrange(len(text))
            put = "".join(source.choices(signs, k=source.randrange(2)))
            changed = text[:at] + put + text[at + source.randrange(3):]
            try:
                self.assertIsInstance(read_rules(changed), Book)
            except BadRules as fault:
                self.assertIn(fault.why, ("form", "name", "empty", "double", "missing"))
                self.assertTrue(0 <= fault.line <= changed.count("\n"))


if __name__ == "__main__":
    unittest.main()
