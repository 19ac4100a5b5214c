"""Roads between rooms, and how far the rooms are from each other."""

from heapq import heappop, heappush

from nearseats.errors import InvalidRoad, UnknownRoom
from nearseats.names import is_known, is_number


class Roads:
    """Rooms, and the roads that join them."""

    def __init__(self, rooms, roads):
        self._neighbours = {room: [] for room in rooms}
        for at, road in enumerate(roads):
            if not is_road(road, self._neighbours):
                raise InvalidRoad(at)
            one, other, length = road
            self._neighbours[one].append((other, length))
            self._neighbours[other].append((one, length))
        self._roads = list(roads)
        # The distances from a room are worked out when they are first asked for.
        self._lengths = {}

    def distance(self, one, other):
        """The distance of two rooms; None if no way leads from one to the other."""
        self._check_room(one)
        self._check_room(other)
        return self._lengths_from(one).get(other)

    def rooms_within(self, room, k):
        """The rooms, in order, whose distance from a room is at most k."""
        self._check_room(room)
        lengths = self._lengths_from(room)
        return [other for other in self._neighbours if other in lengths and lengths[other] <= k]

    def __len__(self):
        return len(self._roads)

    def __bool__(self):
        return True

    def _check_room(self, room):
        if not is_known(room, self._neighbours):
            raise UnknownRoom(room)

    def _lengths_from(self, room):
        if room not in self._lengths:
            self._lengths[room] = lengths_from(room, self._neighbours)
        return self._lengths[room]


def is_road(value, rooms):
    """Whether any value is a road between two of these rooms."""
    if not isinstance(value, tuple) or len(value) != 3:
        return False
    one, other, length = value
    return is_known(one, rooms) and is_known(other, rooms) and one != other and is_number(length, 1, None)


def lengths_from(start, neighbours):
    """A dict from the rooms to which a way leads from the start to their distances.

    neighbours has a list of pairs for each room: a room to which a road leads, and the length of this road.
    """
    lengths = {}
    waiting = [(0, start)]
    while waiting:
        length, room = heappop(waiting)
        # What comes first for a room is the least; longer ways to it may still be waiting.
        if room not in lengths:
            lengths[room] = length
            for other, more in neighbours[room]:
                heappush(waiting, (length + more, other))
    return lengths
