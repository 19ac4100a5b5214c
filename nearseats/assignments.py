"""Assignments: a deal, or none, for each family of a book."""

from nearseats.errors import InvalidDeals, UnknownDeal, UnknownFamily
from nearseats.given import deals_fault, is_choice, meant_seats
from nearseats.names import is_known, is_number


class Assignment:
    """One of its open deals, or none, for each family of a book."""

    def __init__(self, book, deals):
        at = deals_fault(book, deals)
        if at is not None:
            raise InvalidDeals(at)
        self.book = book
        self._deals = list(deals)

    @staticmethod
    def empty(book):
        """The assignment in which all families are out."""
        return Assignment(book, [None for _ in range(len(book))])

    def deals(self):
        """The number of the deal, or None, for each family."""
        return list(self._deals)

    def residents(self, room):
        """The members that the given deals send to a room, in the order of the room."""
        order = self.book.order(room)
        sent = [self.book.sent(number, room) for number in self._deals if number is not None]
        here = {member: True for members in sent for member in members}
        return [member for member in order if member in here]

    def counts(self):
        """The number of the residents of each room."""
        return [len(self.residents(room)) for room in self.book.room_names()]

    def over(self, *, seats=None):
        """The names of the rooms that are over."""
        limits = meant_seats(self.book, seats)
        counts = self.counts()
        return [room for at, room in enumerate(self.book.room_names()) if counts[at] > limits[at]]

    def with_deal(self, family, number):
        """The assignment in which a family has another deal, or None."""
        given = self._given()
        if not is_known(family, given):
            raise UnknownFamily(family)
        if not is_choice(self.book, family, number):
            raise UnknownDeal(number)
        return Assignment(self.book, [number if name == family else given[name] for name in given])

    def __getitem__(self, family):
        given = self._given()
        if not is_known(family, given):
            raise UnknownFamily(family)
        number = given[family]
        return None if number is None else self.book.deal(number)

    def __iter__(self):
        raise TypeError("an assignment is asked by the names of families")

    def __contains__(self, number):
        return is_number(number, 0, None) and number in self._deals

    def __eq__(self, other):
        if not isinstance(other, Assignment):
            return False
        return self.book == other.book and self._deals == other._deals

    def __len__(self):
        return len([number for number in self._deals if number is not None])

    def __bool__(self):
        return True

    def __repr__(self):
        return f"Assignment({len(self)} of {len(self._deals)})"

    def _given(self):
        """A dict from the names of the families to their deals."""
        return {name: number for name, number in zip(self.book.family_names(), self._deals)}
