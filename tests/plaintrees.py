"""Partial assignments and plain trees by the words of [28] and [29], with whole lists of members."""

from itertools import product

from nearseats.assignments import Assignment
from nearseats.blocking import chosen, is_stable


def choices(book):
    """What each family may get, in the order of assignments."""
    return [[*book.numbers(family), None] for family in book.family_names()]


def all_lists(book):
    return [list(deals) for deals in product(*choices(book))]


def partial_lists(book):
    """All partial assignments, those with fewer families first."""
    return [list(deals) for many in range(len(book) + 1) for deals in product(*choices(book)[:many])]


def first_stable(book):
    return next((deals for deals in all_lists(book) if is_stable(Assignment(book, deals))), None)


def residents(book, decided, room):
    return [member for number in decided if number is not None for member in book.sent(number, room)]


def surely_over(book, decided):
    return [room for room in book.room_names() if len(residents(book, decided, room)) > book.room_seats(room)]


def is_surely_blocked(book, decided, number):
    family = book.family_of(number)
    if family >= len(decided) or not (decided[family] is None or decided[family] > number):
        return False
    for room in book.room_names():
        coming = book.sent(number, room)
        free = [other for other in range(book.many_open) if book.family_of(other) >= len(decided)]
        pool = residents(book, decided, room) + coming + [one for other in free for one in book.sent(other, room)]
        if not set(coming) <= set(chosen(book, room, pool)):
            return False
    return True


def surely_blocking(book, decided):
    return [number for number in range(book.many_open) if is_surely_blocked(book, decided, number)]


def plain_tree(book, decided=()):
    """The plain tree; an assignment that is neither over nor blocked has None in its place."""
    over, blocking = surely_over(book, decided), surely_blocking(book, decided)
    if over:
        return ("over", over[0])
    if blocking:
        return ("block", blocking[0])
    if len(decided) == len(book):
        return None
    return ("split", tuple((told, plain_tree(book, [*decided, told])) for told in choices(book)[len(decided)]))


def places(tree, way=()):
    """All pairs of a way and the tree that stands there."""
    found = [(way, tree)]
    if tree[0] == "split":
        for told, branch in tree[1]:
            found.extend(places(branch, (*way, told)))
    return found


def with_place(tree, way, part):
    """The tree with another part at the end of a way."""
    if not way:
        return part
    branches = [(told, with_place(branch, way[1:], part) if told == way[0] else branch) for told, branch in tree[1]]
    return ("split", tuple(branches))
