"""nearseats.roads: roads and distances [7]."""

import unittest

from nearseats.errors import InvalidRoad, UnknownRoom
from nearseats.roads import Roads

from samples import ODD_VALUES

ROOMS = ["Oak", "Elm", "Ash", "Fir", "Bay"]


class DistanceTest(unittest.TestCase):
    def test_along_several_roads(self):
        roads = Roads(ROOMS, [("Oak", "Elm", 2), ("Elm", "Ash", 3), ("Oak", "Ash", 9), ("Ash", "Fir", 1)])
        self.assertEqual([roads.distance("Oak", room) for room in ROOMS], [0, 2, 5, 6, None])
        self.assertEqual([roads.distance("Fir", room) for room in ROOMS], [6, 4, 1, 0, None])
        self.assertEqual(roads.distance(other="Elm", one="Fir"), 4)

    def test_the_straight_road_may_be_the_shortest(self):
        roads = Roads(ROOMS, [("Oak", "Elm", 2), ("Elm", "Ash", 3), ("Oak", "Ash", 4)])
        self.assertEqual(roads.distance("Oak", "Ash"), 4)

    def test_a_way_of_many_roads_listed_in_any_order(self):
        rooms = [f"R{at}" for at in range(12)]
        joined = [(rooms[at], rooms[at + 1], at + 1) for at in (5, 0, 9, 2, 7, 1, 10, 3, 8, 4, 6)]
        roads = Roads(rooms, joined)
        for one in range(12):
            for other in range(12):
                wanted = sum(range(min(one, other) + 1, max(one, other) + 1))
                self.assertEqual(roads.distance(rooms[one], rooms[other]), wanted)

    def test_double_roads(self):
        for lengths in ((7, 2, 5), (2, 5, 7), (7, 5, 2)):
            pairs = (("Oak", "Elm"), ("Elm", "Oak"), ("Oak", "Elm"))
            roads = Roads(ROOMS, [(one, other, length) for (one, other), length in zip(pairs, lengths)])
            self.assertEqual((roads.distance("Oak", "Elm"), roads.distance("Elm", "Oak"), len(roads)), (2, 2, 3))

    def test_both_directions(self):
        roads = Roads(ROOMS, [("Elm", "Oak", 2), ("Elm", "Ash", 3)])
        for one in ROOMS:
            for other in ROOMS:
                self.assertEqual(roads.distance(one, other), roads.distance(other, one))
        self.assertEqual(roads.distance("Oak", "Ash"), 5)

    def test_no_way(self):
        roads = Roads(ROOMS, [("Oak", "Elm", 1), ("Ash", "Fir", 1)])
        self.assertIsNone(roads.distance("Oak", "Ash"))
        self.assertIsNone(roads.distance("Bay", "Oak"))

    def test_a_room_and_itself(self):
        roads = Roads(ROOMS, [("Oak", "Elm", 1)])
        self.assertEqual([roads.distance(room, room) for room in ROOMS], [0] * 5)

    def test_unknown_rooms(self):
        roads = Roads(ROOMS, [("Oak", "Elm", 1)])
        for value in ODD_VALUES:
            for one, other in ((value, "Oak"), ("Oak", value), (value, "Pine"), (value, None)):
                with self.assertRaises(UnknownRoom) as caught:
                    roads.distance(one, other)
                self.assertEqual(caught.exception.value, value)


class WithinTest(unittest.TestCase):
    def test_at_below_and_above_a_distance(self):
        roads = Roads(ROOMS, [("Oak", "Ash", 2), ("Ash", "Elm", 3)])
        self.assertEqual(roads.rooms_within("Oak", 0), ["Oak"])
        self.assertEqual(roads.rooms_within("Oak", 1), ["Oak"])
        self.assertEqual(roads.rooms_within("Oak", 2), ["Oak", "Ash"])
        self.assertEqual(roads.rooms_within("Oak", 4), ["Oak", "Ash"])
        self.assertEqual(roads.rooms_within("Oak", 5), ["Oak", "Elm", "Ash"])
        self.assertEqual(roads.rooms_within(k=999999999, room="Elm"), ["Oak", "Elm", "Ash"])
        self.assertEqual(roads.rooms_within("Bay", 9), ["Bay"])

    def test_unknown_rooms(self):
        for value in ODD_VALUES:
            with self.assertRaises(UnknownRoom) as caught:
                Roads(ROOMS, []).rooms_within(value, 1)
            self.assertEqual(caught.exception.value, value)


class MadeTest(unittest.TestCase):
    def check(self, at, roads):
        with self.assertRaises(InvalidRoad) as caught:
            Roads(ROOMS, roads)
        self.assertEqual(caught.exception.at, at)

    def test_wrong_roads(self):
        good = ("Oak", "Elm", 1)
        wrong = [["Oak", "Elm", 1], ("Oak", "Elm"), ("Oak", "Elm", 1, 1), ("Oak", "Oak", 1), ("Oak", "Pine", 1),
                 ("Pine", "Oak", 1), ("oak", "Elm", 1), (1, "Oak", "Elm")]
        wrong += [("Oak", "Elm", length) for length in (0, -1, True, False, None, "1", (1,), [1])]
        for value in ODD_VALUES:
            wrong += [value, (value, "Elm", 1), ("Elm", value, 1)]
        for road in wrong:
            self.check(0, [road])
            self.check(2, [good, good, road, good])

    def test_the_first_wrong_one(self):
        self.check(1, [("Oak", "Elm", 1), ("Oak", "Pine", 1), None, ("Oak", "Elm", 0)])

    def test_rooms_without_roads_and_no_rooms(self):
        self.assertEqual(Roads(ROOMS, []).distance("Oak", "Oak"), 0)
        with self.assertRaises(InvalidRoad) as caught:
            Roads([], [("Oak", "Elm", 1)])
        self.assertEqual(caught.exception.at, 0)

    def test_len_and_truth(self):
        for roads, many in ((Roads([], []), 0), (Roads(ROOMS, []), 0), (Roads(ROOMS, [("Oak", "Elm", 1)]), 1)):
            self.assertEqual(len(roads), many)
            self.assertIs(bool(roads), True)

    def test_tuples_and_names(self):
        roads = Roads(roads=(("Oak", "Elm", 4),), rooms=tuple(ROOMS))
        self.assertEqual((roads.distance("Elm", "Oak"), len(roads)), (4, 1))

    def test_lists_that_are_changed_afterwards(self):
        rooms, joined = ["Oak", "Elm", "Ash"], [("Oak", "Elm", 4)]
        roads = Roads(rooms, joined)
        rooms.pop()
        joined.append(("Oak", "Elm", 1))
        self.assertEqual((roads.distance("Elm", "Oak"), len(roads), roads.rooms_within("Ash", 0)), (4, 1, ["Ash"]))
        roads.rooms_within("Oak", 9).clear()
        self.assertEqual(roads.rooms_within("Oak", 9), ["Oak", "Elm"])


if __name__ == "__main__":
    unittest.main()
