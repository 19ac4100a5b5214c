"""Answers: seats, a deal or none for each family, and reasons; their texts."""

from nearseats.copies import copied, listed_copy, ordered_copy
from nearseats.errors import BadPaper, InvalidDeals, InvalidSeats
from nearseats.given import deals_fault, seats_fault
from nearseats.lines import joined_lines, text_fault
from nearseats.names import is_any_number
from nearseats.occupancy import Occupancy
from nearseats.papers import PaperReader, paper_lines
from nearseats.reasons import right_reason


class Answer:
    """Seats, deals and reasons, which may be any values."""

    def __init__(self, seats, deals, reasons):
        self._seats = listed_copy(seats)
        self._deals = listed_copy(deals)
        self._reasons = ordered_copy(reasons)

    @staticmethod
    def read(book, text):
        """The answer of a text for a book."""
        reader = PaperReader(book)
        fault = text_fault(text, "answer", reader)
        if fault is not None:
            raise BadPaper(fault[0], fault[1])
        return Answer(reader.seats_told, reader.deals_told, reader.reasons_told)

    def seats(self):
        """The seats of each room."""
        return copied(self._seats)

    def deals(self):
        """The number of the deal, or None, for each family."""
        return copied(self._deals)

    def reasons(self):
        """A dict from the numbers of deals to their reasons."""
        return copied(self._reasons)

    def reason(self, number):
        """The reason for a number; None if there is none."""
        return copied(self._known_reasons().get(number)) if is_any_number(number) else None

    def text(self, book):
        """The text of the answer for a book."""
        at = seats_fault(book, self._seats)
        if at is not None:
            raise InvalidSeats(at)
        at = deals_fault(book, self._deals)
        if at is not None:
            raise InvalidDeals(at)
        return joined_lines(paper_lines(book, self._seats, self._deals, self._known_reasons()))

    def __eq__(self, other):
        if not isinstance(other, Answer):
            return False
        return self._seats == other._seats and self._deals == other._deals and self._reasons == other._reasons

    def __repr__(self):
        return f"Answer({len(self._known_reasons())} reasons)"

    def _known_reasons(self):
        """The dict of the reasons; an empty one for reasons that are no dict."""
        return self._reasons if isinstance(self._reasons, dict) else {}


def reasons_for(assignment, *, seats=None):
    """The reasons of an assignment for seats, by the numbers of the missed deals."""
    occupancy = Occupancy(assignment, seats)
    reasons = {}
    for number in range(assignment.book.many_open):
        if number not in assignment:
            reason = right_reason(occupancy, number)
            if reason is not None:
                reasons[number] = reason
    return reasons
