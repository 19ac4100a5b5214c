"""Changed books: each function makes a new book and leaves the elder one as it is."""

from nearseats.books import Book
from nearseats.checks import OUT
from nearseats.errors import InvalidPlace, UnknownFamily, UnknownRoom
from nearseats.names import is_known, is_number, member_name, member_parts


def with_room(book, room, seats):
    """The book with a new last room, which has an empty order."""
    return Book(_rooms(book) + [(room, seats)], _families(book), _orders(book) + [[]])


def with_seats(book, room, seats):
    """The book with other seats of a room."""
    _check_room(book, room)
    rooms = [(name, seats if name == room else many) for name, many in _rooms(book)]
    return Book(rooms, _families(book), _orders(book))


def with_order(book, room, members):
    """The book with another order of a room."""
    _check_room(book, room)
    orders = [members if name == room else book.order(name) for name in book.room_names()]
    return Book(_rooms(book), _families(book), orders)


def with_family(book, family, size, deals):
    """The book with a new last family."""
    return Book(_rooms(book), _families(book) + [(family, size, deals)], _orders(book))


def with_deals(book, family, deals):
    """The book with another list of deals of a family."""
    _check_family(book, family)
    families = [(name, size, deals if name == family else known) for name, size, known in _families(book)]
    return Book(_rooms(book), families, _orders(book))


def without_family(book, family):
    """The book without a family, and without its members in the orders."""
    _check_family(book, family)
    families = [row for row in _families(book) if row[0] != family]
    orders = [[member for member in order if member_parts(member)[0] != family] for order in _orders(book)]
    return Book(_rooms(book), families, orders)


def cut(book, family, many):
    """The book in which only the first many deals of a family are kept."""
    return with_deals(book, family, book.deals(family)[:many])


def exchanged(book, room, place):
    """The book in which the member at a place of an order is exchanged with the next one."""
    order = book.order(room)
    if not is_number(place, 0, len(order) - 2):
        raise InvalidPlace(place)
    return with_order(book, room, order[:place] + [order[place + 1], order[place]] + order[place + 2:])


def renamed(book, *, rooms, families):
    """The book with other names: rooms and families are dicts from old names to new ones."""
    new_rooms = {name: rooms.get(name, name) for name in book.room_names()}
    new_families = {name: families.get(name, name) for name in book.family_names()}
    # The mark of a member without a room stays, also where it is a key that counts for nothing.
    new_items = {**new_rooms, OUT: OUT}
    told = []
    for name, size, deals in _families(book):
        told.append((new_families[name], size, [tuple([new_items[item] for item in deal]) for deal in deals]))
    orders = [[_renamed_member(member, new_families) for member in order] for order in _orders(book)]
    return Book([(new_rooms[name], seats) for name, seats in _rooms(book)], told, orders)


def _renamed_member(member, new_families):
    family, k = member_parts(member)
    return member_name(new_families[family], k)


def _rooms(book):
    return list(zip(book.room_names(), book.seats()))


def _families(book):
    return [(name, book.size(name), book.deals(name)) for name in book.family_names()]


def _orders(book):
    return [book.order(name) for name in book.room_names()]


def _check_room(book, room):
    if not is_known(room, book.room_names()):
        raise UnknownRoom(room)


def _check_family(book, family):
    if not is_known(family, book.family_names()):
        raise UnknownFamily(family)
