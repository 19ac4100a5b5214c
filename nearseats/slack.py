"""Slack: what may be changed about a stable assignment so that it stays stable."""

from nearseats.blocking import is_blocking
from nearseats.errors import NotStable, Overfull
from nearseats.given import over_fault
from nearseats.occupancy import Occupancy


def spare(assignment, *, seats=None):
    """The seats of each room beyond its residents."""
    return _stable_rooms(assignment, seats).spare_seats()


def harmless(assignment, *, seats=None):
    """The pairs of a room and a place of all harmless exchanges in the orders of rooms."""
    rooms = _stable_rooms(assignment, seats)
    found = []
    for room in assignment.book.room_names():
        order = assignment.book.order(room)
        coming = _refused_members(rooms, room)
        for place in range(len(order) - 1):
            forward = order[place + 1]
            changed = [*order[:place], forward, order[place], *order[place + 2:]]
            # Only the one who comes forward can be chosen now, so that only his deals can begin to block.
            if not any([forward in sent and rooms.chooses_by(changed, room, sent) for sent in coming]):
                found.append((room, place))
    return found


def leavers(assignment, *, seats=None):
    """The names of the families that may leave."""
    _stable_rooms(assignment, seats)
    return [family for family in assignment.book.family_names() if _may_leave(assignment, family, seats)]


def _stable_rooms(assignment, seats):
    """The Occupancy of an assignment, which must be stable."""
    rooms = Occupancy(assignment, seats)
    at = over_fault(assignment, seats)
    if at is not None:
        raise Overfull(at)
    for number in range(assignment.book.many_open):
        if is_blocking(rooms, number):
            raise NotStable(number)
    return rooms


def _refused_members(rooms, room):
    """The members that deals send to a room, for each deal that does not block for the sake of this room alone."""
    book = rooms.book
    found = []
    for number in range(book.many_open):
        sent = book.sent(number, room)
        if sent and rooms.is_wanted(number):
            others = [other for other in rooms.rooms_of(number) if other != room]
            if all([rooms.chooses(other, book.sent(number, other)) for other in others]):
                found.append(sent)
    return found


def _may_leave(assignment, family, seats):
    """Whether no deal of another family blocks if a family goes out of a stable assignment."""
    book = assignment.book
    rooms = Occupancy(assignment.with_deal(family, None), seats)
    own = book.numbers(family)
    return not any([is_blocking(rooms, number) for number in range(book.many_open) if number not in own])
