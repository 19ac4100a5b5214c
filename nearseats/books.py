"""Books: rooms, families and orders, and which deals are open."""

from nearseats.bookreader import BookReader
from nearseats.checks import OUT, book_fault
from nearseats.errors import BadBook, UnknownDeal, UnknownFamily, UnknownRoom
from nearseats.lines import book_lines, joined_lines, text_fault
from nearseats.names import is_known, is_number, member_name


class Book:
    """A list of rooms, a list of families with their deals, and an order for each room."""

    def __init__(self, rooms, families, orders):
        fault = book_fault(rooms, families, orders)
        if fault is not None:
            raise BadBook(fault[0], fault[1])
        self._rooms = list(rooms)
        self._families = [(name, size, tuple(deals)) for name, size, deals in families]
        self._orders = [tuple(members) for members in orders]
        self._room_at = {name: at for at, (name, _) in enumerate(self._rooms)}
        self._family_at = {name: at for at, (name, _, _) in enumerate(self._families)}
        self._standing = open_deals(self._rooms, self._families, self._orders)

    @staticmethod
    def read(text):
        """The book of a text."""
        reader = BookReader()
        fault = text_fault(text, "book", reader)
        if fault is not None:
            raise BadBook(fault[0], fault[1])
        return Book(reader.rooms, reader.families, reader.orders)

    @staticmethod
    def empty():
        """The book without rooms and families."""
        return Book([], [], [])

    def text(self):
        """The text of the book."""
        return joined_lines(book_lines(self._rooms, self._families, self._orders))

    def room_names(self):
        """The names of the rooms."""
        return [name for name, _ in self._rooms]

    def family_names(self):
        """The names of the families."""
        return [name for name, _, _ in self._families]

    def seats(self):
        """The seats of each room."""
        return [seats for _, seats in self._rooms]

    def size(self, family):
        """The size of a family."""
        return self._families[self._place_of_family(family)][1]

    def deals(self, family):
        """All deals of a family, open or not."""
        return list(self._families[self._place_of_family(family)][2])

    def numbers(self, family):
        """The numbers of the open deals of a family."""
        place = self._place_of_family(family)
        return [number for number, (at, _) in enumerate(self._standing) if at == place]

    def members(self, family):
        """The members of a family."""
        return [member_name(family, k) for k in range(1, self.size(family) + 1)]

    def order(self, room):
        """The members that a room takes, the best one first."""
        return list(self._orders[self._place_of_room(room)])

    def room_seats(self, room):
        """The seats of a room."""
        return self._rooms[self._place_of_room(room)][1]

    @property
    def width(self):
        """The greatest number of members that an open deal sends to rooms; 1 if no deal is open."""
        return max([len(deal) - deal.count(OUT) for _, deal in self._standing], default=1)

    @property
    def many_open(self):
        """The number of open deals."""
        return len(self._standing)

    def deal(self, number):
        """The open deal with a number."""
        self._check_number(number)
        return self._standing[number][1]

    def family_of(self, number):
        """The index of the family of an open deal."""
        self._check_number(number)
        return self._standing[number][0]

    def sent(self, number, room):
        """The members that an open deal sends to a room, by their numbers."""
        self._check_number(number)
        self._place_of_room(room)
        at, deal = self._standing[number]
        return sent_members(self._families[at][0], deal, room)

    def number_of(self, family, deal):
        """The number of an open deal; None for any values that are not a family and one of its open deals."""
        if not is_known(family, self._family_at):
            return None
        for number in self.numbers(family):
            if self._standing[number][1] == deal:
                return number
        return None

    def is_open(self, family, deal):
        """Whether any values are the name of a family and one of its open deals."""
        return self.number_of(family, deal) is not None

    def __add__(self, other):
        if not isinstance(other, Book):
            return NotImplemented
        rooms = self._rooms + other._rooms
        families = self._families + other._families
        return Book(rooms, families, self._orders + other._orders)

    def __eq__(self, other):
        if not isinstance(other, Book):
            return False
        mine = (self._rooms, self._families, self._orders)
        return mine == (other._rooms, other._families, other._orders)

    def __len__(self):
        return len(self._families)

    def __bool__(self):
        return True

    def __repr__(self):
        return f"Book({len(self._rooms)} rooms, {len(self._families)} families)"

    def _place_of_room(self, room):
        if not is_known(room, self._room_at):
            raise UnknownRoom(room)
        return self._room_at[room]

    def _place_of_family(self, family):
        if not is_known(family, self._family_at):
            raise UnknownFamily(family)
        return self._family_at[family]

    def _check_number(self, number):
        if not is_number(number, 0, len(self._standing) - 1):
            raise UnknownDeal(number)


def sent_members(family, deal, room):
    """The members that a deal of a family sends to a room, by their numbers."""
    return [member_name(family, k) for k, item in enumerate(deal, start=1) if item == room]


def open_deals(rooms, families, orders):
    """A pair (index of the family, deal) for each open deal, by the numbers of the deals."""
    seats = {name: many for name, many in rooms}
    taken = {name: members for (name, _), members in zip(rooms, orders)}
    standing = []
    for at, (family, _, deals) in enumerate(families):
        for deal in deals:
            if not falls_away(family, deal, seats, taken):
                standing.append((at, deal))
    return standing


def falls_away(family, deal, seats, taken):
    """Whether a deal falls away for these seats, and these members that are taken, of each room."""
    for room in deal:
        if room != OUT:
            sent = sent_members(family, deal, room)
            if len(sent) > seats[room] or not all([member in taken[room] for member in sent]):
                return True
    return False
