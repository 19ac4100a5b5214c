"""What is wrong with the parts of a book, in the words of BadBook."""

from nearseats.names import is_member, is_name, is_number, member_parts

OUT = "-"


def is_listing(value):
    """Whether any value may stand where a list is documented."""
    return isinstance(value, (list, tuple))


def has_double(items):
    """Whether some item stands twice among strings, or among tuples of strings."""
    return len(set(items)) < len(items)


def is_room(value):
    """Whether any value is a pair of a name and seats."""
    return isinstance(value, tuple) and len(value) == 2 and is_name(value[0]) and is_number(value[1], 0, None)


def is_deal(value, size):
    """Whether any value is a tuple with a name or `-` for each of so many members."""
    if not isinstance(value, tuple) or len(value) != size:
        return False
    return all([item == OUT or is_name(item) for item in value])


def is_family(value):
    """Whether any value is a triple of a name, a size and a list of deals of this size."""
    if not isinstance(value, tuple) or len(value) != 3:
        return False
    name, size, deals = value
    if not is_name(name) or not is_number(size, 1, None) or not is_listing(deals):
        return False
    return all([is_deal(deal, size) for deal in deals])


def is_order(value):
    """Whether any value is a list of strings that are written as members."""
    return is_listing(value) and all([is_member(item) for item in value])


def family_why(family, rooms, sizes):
    """What is wrong with a triple of is_family, or None; rooms and sizes have the names told ahead of it."""
    name, _, deals = family
    return "name" if name in sizes else deals_why(deals, rooms)


def deals_why(deals, rooms):
    """What is wrong with a list of deals that are written rightly, or None, whatever their lengths are."""
    if not all([item == OUT or item in rooms for deal in deals for item in deal]):
        return "name"
    if any([deal.count(OUT) == len(deal) for deal in deals]):
        return "empty"
    if has_double(deals):
        return "double"
    return None


def order_why(members, sizes):
    """What is wrong with an order of is_order, or None; sizes has the size of each family."""
    if not all([has_member(sizes, member) for member in members]):
        return "name"
    if has_double(members):
        return "double"
    return None


def has_member(sizes, member):
    """Whether a member belongs to a family whose size is told."""
    family, k = member_parts(member)
    return family in sizes and k <= sizes[family]


def book_fault(rooms, families, orders):
    """The line and the word for the first wrong one of any values, or None if they make a book."""
    fault = _rooms_fault(rooms)
    if fault is None:
        fault = _families_fault(families, rooms)
    if fault is None:
        fault = _orders_fault(orders, rooms, families)
    return fault


def _rooms_fault(rooms):
    if not is_listing(rooms):
        return (1, "form")
    seen = {}
    for line, room in enumerate(rooms, start=1):
        if not is_room(room):
            return (line, "form")
        if room[0] in seen:
            return (line, "name")
        seen[room[0]] = True
    return None


def _families_fault(families, rooms):
    first = 1 + len(rooms)
    if not is_listing(families):
        return (first, "form")
    known = {name: True for name, _ in rooms}
    sizes = {}
    for line, family in enumerate(families, start=first):
        if not is_family(family):
            return (line, "form")
        why = family_why(family, known, sizes)
        if why is not None:
            return (line, why)
        sizes[family[0]] = family[1]
    return None


def _orders_fault(orders, rooms, families):
    first = 1 + len(rooms) + len(families)
    if not is_listing(orders):
        return (first, "form")
    sizes = {name: size for name, size, _ in families}
    for at, order in enumerate(orders):
        if at >= len(rooms) or not is_order(order):
            return (first + at, "form")
        why = order_why(order, sizes)
        if why is not None:
            return (first + at, why)
    if len(orders) < len(rooms):
        return (first + len(orders), "form")
    return None
