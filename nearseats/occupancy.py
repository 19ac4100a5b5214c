"""Rooms with their residents and seats."""

from nearseats.given import limits_by_room


class Occupancy:
    """The residents and the seats of each room, for an assignment and seats."""

    def __init__(self, assignment, seats):
        self.book = assignment.book
        self._deals = assignment.deals()
        self._limits = limits_by_room(self.book, seats)
        self._residents = {room: assignment.residents(room) for room in self._limits}

    def given_to(self, number):
        """The number of the deal that the family of an open deal has, or None."""
        return self._deals[self.book.family_of(number)]

    def rooms_of(self, number):
        """The rooms to which an open deal sends members, in the order of the book."""
        deal = self.book.deal(number)
        return [room for room in self._limits if room in deal]

    def is_wanted(self, number):
        """Whether the family of an open deal is out or has a deal behind it."""
        given = self.given_to(number)
        return given is None or given > number

    def chooses(self, room, members):
        """Whether a room chooses all of these members from its residents together with them."""
        return self.chooses_by(self.book.order(room), room, members)

    def chooses_by(self, order, room, members):
        """The same for a room that has this order in the place of its own."""
        first = first_members(order, self._residents[room] + members, self._limits[room])
        return all([member in first for member in members])

    def not_chosen(self):
        """The residents whom their rooms do not choose from their residents."""
        return [member for room, many in self._limits.items() for member in self._residents[room][many:]]

    def spare_seats(self):
        """The seats of each room beyond its residents."""
        return [many - len(self._residents[room]) for room, many in self._limits.items()]

    def is_filled(self, room):
        """Whether a room has just as many residents as seats."""
        return len(self._residents[room]) == self._limits[room]

    def is_behind_residents(self, room, members):
        """Whether each resident of a room comes ahead of the last one of these members, in its order."""
        order = self.book.order(room)
        last = max([order.index(member) for member in members])
        return all([order.index(member) < last for member in self._residents[room]])


def first_members(order, members, many):
    """The first many of these members in an order, each of them once."""
    wanted = set(members)
    return [member for member in order if member in wanted][:many]
