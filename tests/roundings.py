"""What [25] says of the states of a rounding, worked out in the plainest way; and all ways that a rounding can go."""

from itertools import combinations, product

from nearseats.shares import Shares, is_dominating, row_sum
from nearseats.tables import Table
from nearseats.walks import shares_of

# Sizes of books, with seeds whose rounding releases several rooms, or one whose row is not full at the beginning, or
# has full rooms with too many entries.
SEVERAL = (({"rooms": 2, "families": 3, "size": 2, "deals": 3, "seats": 2}, (0, 11, 115, 124, 219)),
           ({"rooms": 3, "families": 5, "size": 3, "deals": 3, "seats": 3}, (13, 17, 24, 53, 284, 383)),
           ({"rooms": 5, "families": 6, "size": 3, "deals": 3, "seats": 2}, (6, 21, 97, 152, 188, 278)),
           ({"rooms": 3, "families": 8, "size": 2, "deals": 3, "seats": 3}, (91, 331)),
           ({"rooms": 4, "families": 8, "size": 3, "deals": 3, "seats": 3}, (142, 145, 161, 168, 261)),
           ({"rooms": 4, "families": 6, "size": 4, "deals": 3, "seats": 5}, (25,)))
# Three families of one member with three stable assignments, midway between which there are other dominating shares.
ROUND = ("book\nroom X 1\nroom Y 1\nroom Z 1\nfamily a 1 : X | Y | Z\nfamily b 1 : Y | Z | X\n"
         "family c 1 : Z | X | Y\norder X : b.1 c.1 a.1\norder Y : c.1 a.1 b.1\norder Z : a.1 b.1 c.1\nend\n")


def entry(book, row, number):
    """The entry of an open deal in a row that is told as a pair."""
    kind, name = row
    if kind == "family":
        return int(book.family_names()[book.family_of(number)] == name)
    return len(book.sent(number, name))


def bound(book, row):
    return 1 if row[0] == "family" else book.room_seats(row[1])


def row_pairs(book):
    rooms = [("room", name) for name in book.room_names() if book.room_seats(name) > 0]
    return [*[("family", name) for name in book.family_names()], *rooms]


def full_pairs(book, shares):
    """The full rows, as pairs, by their sums."""
    table = Table(book)
    return [row for at, row in enumerate(row_pairs(book)) if row_sum(table, shares, at) == (bound(book, row), 1)]


def region_rows(rounding):
    book = rounding.book
    told = []
    for at, row in enumerate(row_pairs(book)):
        if row not in [("room", name) for name in rounding.released()]:
            given = sum(entry(book, row, number) for number, worth in rounding.settled().items() if worth == 1)
            entries = tuple(entry(book, row, number) for number in rounding.unsettled())
            told.append((entries, bound(book, row) - given, at in rounding.full()))
    return told


def weight_list(rounding):
    pairs = [row_pairs(rounding.book)[at] for at in rounding.full()]
    rooms = [row for row in pairs if row[0] == "room"]
    return [sum(entry(rounding.book, row, number) for row in rooms) for number in rounding.unsettled()]


def releasable(rounding):
    if rounding.next_kind != "release":
        return []
    book = rounding.book
    found = []
    for row in full_pairs(book, rounding.present):
        total = sum(entry(book, row, number) for number in rounding.unsettled())
        if row[0] == "room" and row[1] not in rounding.released() and 1 <= total <= 2 * book.width - 1:
            found.append(row[1])
    return found


def unsettled_part(rounding):
    """The present shares of the deals that are not settled, as a point of the region."""
    numbers = rounding.present.numbers()
    return Shares([numbers[at] for at in rounding.unsettled()], below=rounding.present.below)


def all_ends(rounding, look):
    """All ended roundings that other choices of rooms lead to; look(rounding) is called for each state on the way."""
    look(rounding)
    if rounding.ended:
        return [rounding]
    found = []
    for room in rounding.releasable() if rounding.next_kind == "release" else [None]:
        twin = rounding.twin()
        if room is None:
            twin.step()
        else:
            twin.release(room)
        found.extend(all_ends(twin, look))
    return found


def whole_shares(book):
    """All dominating shares that are 0 or 1."""
    found = []
    for told in product(*[[*book.numbers(family), None] for family in book.family_names()]):
        shares = Shares([int(number in told) for number in range(book.many_open)])
        if is_dominating(Table(book), shares):
            found.append(shares)
    return found


def mixture(one, other):
    pairs = zip(one.numbers(), other.numbers())
    return Shares([here * other.below + there * one.below for here, there in pairs], below=2 * one.below * other.below)


def mixtures(book):
    """Dominating shares that lie midway between other ones."""
    found = [shares_of(book), *whole_shares(book)]
    mixed = [mixture(one, other) for one, other in combinations(found, 2) if one != other]
    return [shares for shares in mixed if is_dominating(Table(book), shares)]


def joined(one, other):
    """The shares of two books that are put beside each other."""
    numbers = [number * other.below for number in one.numbers()] + [number * one.below for number in other.numbers()]
    return Shares(numbers, below=one.below * other.below)
