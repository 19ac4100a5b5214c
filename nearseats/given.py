"""Values that are given for a book or its table, and whether they can be such."""

from nearseats.checks import is_listing
from nearseats.errors import InvalidSeats, UnknownDeal
from nearseats.names import is_number


def seats_fault(book, seats):
    """The index of the first wrong item of any value as seats, -1 for the whole; None for seats."""
    if not is_listing(seats) or len(seats) != len(book.seats()):
        return -1
    for at, item in enumerate(seats):
        if not is_number(item, 0, None):
            return at
    return None


def deals_fault(book, deals):
    """The index of the first wrong item of any value as deals, -1 for the whole; None for deals."""
    if is_listing(deals) and len(deals) < len(book):
        return -1
    return decided_fault(book, deals)


def decided_fault(book, decided):
    """The index of the first wrong item of any value as deals of the first families, -1 for the whole, or None."""
    names = book.family_names()
    if not is_listing(decided) or len(decided) > len(names):
        return -1
    for at, item in enumerate(decided):
        if not is_choice(book, names[at], item):
            return at
    return None


def is_choice(book, family, value):
    """Whether any value is None or the number of an open deal of a family of the book."""
    # Without is_number, True would stand for the deal 1.
    return value is None or (is_number(value, 0, None) and value in book.numbers(family))


def meant_seats(book, seats):
    """The list of the seats that are meant: those of the book for None."""
    if seats is None:
        return book.seats()
    at = seats_fault(book, seats)
    if at is not None:
        raise InvalidSeats(at)
    return list(seats)


def limits_by_room(book, seats):
    """A dict from the names of the rooms to the seats that are meant."""
    return {room: many for room, many in zip(book.room_names(), meant_seats(book, seats))}


def over_fault(assignment, seats):
    """The index of the first room that is over, or None."""
    over = assignment.over(seats=seats)
    return assignment.book.room_names().index(over[0]) if over else None


def check_open(book, number):
    """Refuses any value that is no number of an open deal."""
    if not is_number(number, 0, book.many_open - 1):
        raise UnknownDeal(number)


def columns_fault(table, columns):
    """The index of the first wrong item of any value as one column for each row; None for such columns.

    An item is wrong if it is no column of the table or has stood before. It is -1 for the whole.
    """
    if not is_listing(columns) or len(columns) != table.many_rows:
        return -1
    seen = {}
    for at, item in enumerate(columns):
        if not is_number(item, 0, table.many_columns - 1) or item in seen:
            return at
        seen[item] = True
    return None
