"""Placing: from a book, or from dominating shares of it, to an answer that the judge takes."""

from nearseats.answers import Answer, reasons_for
from nearseats.errors import InvalidSeats
from nearseats.given import seats_fault
from nearseats.rounding import Rounding
from nearseats.walks import shares_of


def place(book, *, first=0):
    """The answer for the shares that the walk with this first row reaches."""
    return place_shares(book, shares_of(book, first=first))


def place_shares(book, shares):
    """The answer that the rounding of dominating shares leads to."""
    rounding = Rounding(book, shares)
    rounding.run()
    seats = rounding.found_seats()
    final = rounding.final()
    return Answer(seats, final.deals(), reasons_for(final, seats=seats))


def changed_seats(book, answer):
    """By how much the seats of an answer are more than those of the book, for each room."""
    seats = answer.seats() if isinstance(answer, Answer) else None
    at = seats_fault(book, seats)
    if at is not None:
        raise InvalidSeats(at)
    return [found - known for found, known in zip(seats, book.seats())]
