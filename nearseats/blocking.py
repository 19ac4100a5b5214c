"""Whom a room chooses, and which deals block an assignment."""

from nearseats.given import check_open, limits_by_room
from nearseats.occupancy import Occupancy, first_members


def chosen(book, room, members, *, seats=None):
    """Those of a list of members whom a room chooses, in the order of the room."""
    order = book.order(room)
    return first_members(order, members, limits_by_room(book, seats)[room])


def blocks(assignment, number, *, seats=None):
    """Whether an open deal blocks an assignment."""
    check_open(assignment.book, number)
    return is_blocking(Occupancy(assignment, seats), number)


def blocking(assignment, *, seats=None):
    """The numbers of all deals that block an assignment, ascending."""
    rooms = Occupancy(assignment, seats)
    for number in range(assignment.book.many_open):
        if is_blocking(rooms, number):
            yield number


def is_stable(assignment, *, seats=None):
    """Whether no room is over and no deal blocks."""
    if assignment.over(seats=seats):
        return False
    for _ in blocking(assignment, seats=seats):
        return False
    return True


def is_blocking(rooms, number):
    """Whether an open deal blocks the assignment of these rooms, an Occupancy."""
    if not rooms.is_wanted(number):
        return False
    return all([rooms.chooses(room, rooms.book.sent(number, room)) for room in rooms.rooms_of(number)])
