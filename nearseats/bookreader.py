"""The lines of a book, taken one by one."""

from nearseats.checks import family_why, order_why
from nearseats.lines import family_line, order_line, seats_line


class BookReader:
    """Takes the lines behind the title of a text of a book, and keeps what they tell."""

    def __init__(self):
        self.rooms = []
        self.families = []
        self.orders = []
        self.known_rooms = {}
        self.sizes = {}
        self.closed = False

    def take(self, line):
        """The word for the next line if it cannot stand, otherwise None."""
        if self.closed:
            return "form"
        if line == "end":
            return self._take_end()
        kind = line.partition(" ")[0]
        if kind == "room":
            return self._take_room(line)
        if kind == "family":
            return self._take_family(line)
        if kind == "order":
            return self._take_order(line)
        return "form"

    def wants_rooms(self):
        """Whether a line with `room` may stand next."""
        return not self.closed and not self.families and not self.orders

    def wants_families(self):
        """Whether a line with `family` may stand next."""
        return not self.closed and not self.orders

    def wants_orders(self):
        """Whether the order of a room must still come."""
        return len(self.orders) < len(self.rooms)

    def why_order(self, room, members):
        """What is wrong with the members, told for a room, as the next order; None if nothing is."""
        if room != self.rooms[len(self.orders)][0]:
            return "name"
        return order_why(members, self.sizes)

    def put_family(self, family):
        """Keeps the next family."""
        self.families.append(family)
        self.sizes[family[0]] = family[1]

    def put_order(self, members):
        """Keeps the order of the next room."""
        self.orders.append(members)

    def _take_end(self):
        if self.wants_orders():
            return "form"
        self.closed = True
        return None

    def _take_room(self, line):
        room = seats_line(line, "room")
        if room is None or not self.wants_rooms():
            return "form"
        if room[0] in self.known_rooms:
            return "name"
        self.rooms.append(room)
        self.known_rooms[room[0]] = True
        return None

    def _take_family(self, line):
        family = family_line(line)
        if family is None or not self.wants_families():
            return "form"
        why = family_why(family, self.known_rooms, self.sizes)
        if why is None:
            self.put_family(family)
        return why

    def _take_order(self, line):
        told = order_line(line)
        if told is None or not self.wants_orders():
            return "form"
        why = self.why_order(told[0], told[1])
        if why is None:
            self.put_order(told[1])
        return why
