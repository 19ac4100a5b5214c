"""The judge: whether an answer is taken, read without any search."""

from nearseats.assignments import Assignment
from nearseats.errors import UnknownDeal
from nearseats.given import deals_fault, over_fault, seats_fault
from nearseats.names import is_number
from nearseats.occupancy import Occupancy
from nearseats.reasons import why_wrong


class Fault:
    """What is wrong with an answer, and where."""

    def __init__(self, at, why):
        self.at = at
        self.why = why

    def __eq__(self, other):
        return isinstance(other, Fault) and self.at == other.at and self.why == other.why

    def __repr__(self):
        return f"Fault({self.at}, {self.why})"


def judge(book, answer):
    """The first fault of an answer for a book; None if it is taken."""
    at = seats_fault(book, answer.seats())
    if at is not None:
        return Fault(at, "seats")
    at = deals_fault(book, answer.deals())
    if at is not None:
        return Fault(at, "deals")
    assignment = Assignment(book, answer.deals())
    at = over_fault(assignment, answer.seats())
    if at is not None:
        return Fault(at, "over")
    return _reason_fault(assignment, answer)


def is_right(assignment, number, reason, *, seats=None):
    """Whether any value is a right reason for a missed deal."""
    if not is_number(number, 0, assignment.book.many_open - 1) or number in assignment:
        raise UnknownDeal(number)
    return why_wrong(Occupancy(assignment, seats), number, reason) is None


def _reason_fault(assignment, answer):
    """The fault of the first missed deal for which the answer has no right reason."""
    occupancy = Occupancy(assignment, answer.seats())
    for number in range(assignment.book.many_open):
        if number not in assignment:
            why = why_wrong(occupancy, number, answer.reason(number))
            if why is not None:
                return Fault(number, why)
    return None
