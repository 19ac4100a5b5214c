"""The lines of the scripts of a desk: how they are read, and why one cannot be done.

A shelf is a dict from the names of books to pairs of a book and its kept answer, or None.
"""

from nearseats.checks import deals_why, family_why, order_why
from nearseats.lines import deals_of, family_line, headed_line, order_line, seats_line
from nearseats.names import is_name
from nearseats.papers import told_deal
from nearseats.tries import ORDERS

UNDO = "undo"
CHANGING = ("open", "copy", "drop", "room", "seats", "order", "family", "list", "go", "place")
# The kinds of lines with the name of a book alone, and with one more name.
BARE = ("open", "drop", "place", "show", "check", "settle")
NAMED = ("copy", "go")


def told_line(line):
    """The kind of a line, the name of its book and what the rest tells; None for any other form."""
    if line == UNDO:
        return (UNDO, None, None)
    words = line.split(" ")
    if len(words) < 2 or not is_name(words[1]):
        return None
    told = told_rest(words[0], words[2:])
    return None if told is None else (words[0], words[1], told)


def told_rest(kind, words):
    """What the words behind the name of the book tell in a line of this kind; None for any other form."""
    if kind in BARE:
        return None if words else ()
    if kind in NAMED:
        return words[0] if len(words) == 1 and is_name(words[0]) else None
    if kind == "try":
        return words[0] if len(words) == 1 and words[0] in ORDERS else None
    # Without the name of the book, most lines have the form of a line of the text of a book.
    line = " ".join([kind, *words])
    if kind in ("room", "seats"):
        return seats_line(line, kind)
    if kind == "order":
        return order_line(line)
    if kind == "family":
        return family_line(line)
    if kind in ("list", "why"):
        return deals_line(line, kind)
    return None


def deals_line(line, kind):
    """The family and the deals that a line of this kind tells, just one deal for `why`; None for any other form."""
    told = headed_line(line, kind)
    if told is None or not is_name(told[0]):
        return None
    deals = deals_of(told[1])
    if not all([told_deal(deal) is not None for deal in deals]) or (kind == "why" and len(deals) != 1):
        return None
    return (told[0], deals)


def why_not(shelf, told):
    """The word for a line that told_line tells, if it cannot be done for a shelf; None otherwise."""
    kind, name, rest = told
    if kind == "open":
        return "name" if name in shelf else None
    if name not in shelf:
        return "name"
    if kind == "copy":
        return "name" if rest in shelf else None
    return why_not_in(shelf[name][0], kind, rest)


def why_not_in(book, kind, rest):
    """The word for a line of this kind with this rest, if it cannot be done for a book; None otherwise."""
    rooms = book.room_names()
    sizes = {family: book.size(family) for family in book.family_names()}
    if kind == "room":
        return "name" if rest[0] in rooms else None
    if kind == "seats":
        return None if rest[0] in rooms else "name"
    if kind == "order":
        return order_why(rest[1], sizes) if rest[0] in rooms else "name"
    if kind == "family":
        return family_why(rest, rooms, sizes)
    if kind == "go":
        return None if rest in sizes else "name"
    if kind in ("list", "why"):
        return why_not_deals(book, kind, rest[0], rest[1])
    return None


def why_not_deals(book, kind, family, deals):
    """The word for the deals of a line with `list` or `why`, if it cannot be done for a book; None otherwise."""
    if family not in book.family_names():
        return "name"
    why = deals_why(deals, book.room_names())
    if why is not None:
        return why
    if kind == "list":
        return None if all([len(deal) == book.size(family) for deal in deals]) else "deal"
    return None if deals[0] in book.deals(family) else "deal"
