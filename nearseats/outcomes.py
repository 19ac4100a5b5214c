"""The outcomes of those lines of a script that change nothing."""

from nearseats.answers import Answer
from nearseats.assignments import Assignment
from nearseats.errors import BadPaper
from nearseats.judging import judge
from nearseats.settling import settle
from nearseats.trees import leaves
from nearseats.tries import Try

NONE = "none"


def line_outcome(book, kept, kind, rest):
    """The outcome of a line of this kind for a book and its kept answer; rest is what the line tells further."""
    if kind == "show":
        return book.text()
    if kind == "check":
        return check_outcome(book, kept)
    if kind == "why":
        return why_outcome(book, kept, rest[0], rest[1][0])
    if kind == "settle":
        return settle_outcome(book)
    return try_outcome(book, rest)


def check_outcome(book, kept):
    """Whether the kept answer can be read, and whether the judge takes it."""
    if kept is None:
        return NONE
    try:
        answer = Answer.read(book, kept)
    except BadPaper as wrong:
        return f"unfit {wrong.line} {wrong.why}"
    fault = judge(book, answer)
    return "taken" if fault is None else f"fault {fault.at} {fault.why}"


def why_outcome(book, kept, family, deal):
    """What the kept answer tells of a deal of a family."""
    if kept is None:
        return NONE
    try:
        answer = Answer.read(book, kept)
    except BadPaper:
        return NONE
    number = book.number_of(family, deal)
    if number is None:
        return "fallen"
    if number in answer.deals():
        return "given"
    reason = answer.reason(number)
    return "missing" if reason is None else reason


def settle_outcome(book):
    """The first stable assignment, or how many leaves the plain tree has."""
    told = settle(book)
    if not told:
        return f"never {leaves(told.tree)}"
    return " ".join(["stable", *["-" if number is None else str(number) for number in told.assignment.deals()]])


def try_outcome(book, order):
    """How a try in this order ends that begins with all families out."""
    attempt = Try(Assignment.empty(book), order=order)
    attempt.run()
    if attempt.ring is None:
        return f"rest {attempt.many_steps}"
    begin, length = attempt.ring
    return f"ring {begin} {length}"
