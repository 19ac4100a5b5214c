"""Seats and deals that are given for a book, and whether they can be such."""

from nearseats.checks import is_listing
from nearseats.errors import InvalidSeats
from nearseats.names import is_number


def seats_fault(book, seats):
    """The index of the first wrong item of any value as seats, -1 for the whole; None for seats."""
    if not is_listing(seats) or len(seats) != len(book.seats()):
        return -1
    for at, item in enumerate(seats):
        if not is_number(item, 0, None):
            return at
    return None


def deals_fault(book, deals):
    """The index of the first wrong item of any value as deals, -1 for the whole; None for deals."""
    names = book.family_names()
    if not is_listing(deals) or len(deals) != len(names):
        return -1
    for at, item in enumerate(deals):
        if not is_choice(book, names[at], item):
            return at
    return None


def is_choice(book, family, value):
    """Whether any value is None or the number of an open deal of a family of the book."""
    # Without is_number, True would stand for the deal 1.
    return value is None or (is_number(value, 0, None) and value in book.numbers(family))


def meant_seats(book, seats):
    """The list of the seats that are meant: those of the book for None."""
    if seats is None:
        return book.seats()
    at = seats_fault(book, seats)
    if at is not None:
        raise InvalidSeats(at)
    return list(seats)
