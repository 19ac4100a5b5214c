"""Wishes, the ways of a family, and the lists of deals that clauses make of them."""

from nearseats.checks import OUT, has_double, is_listing
from nearseats.errors import InvalidClause, InvalidWishes
from nearseats.names import is_name, is_number

MOST = 24
PLAIN_CLAUSES = (("together",), ("any",))
COUNTING_WORDS = ("within", "drop")


def ways(wishes):
    """All ways of a family with these wishes, in the order of ways."""
    at = wishes_fault(wishes)
    if at is not None:
        raise InvalidWishes(at)
    ranked = sorted([(sum(places), places) for places in _all_places(wishes)])
    found = [_way_at(wishes, places) for _, places in ranked]
    return [way for way in found if way.count(OUT) < len(way)]


def lets(clause, way, roads):
    """Whether a clause lets a way."""
    if not is_clause(clause):
        raise InvalidClause(0)
    return _lets(clause, way, roads)


def listed(wishes, clauses, roads, *, most=MOST):
    """The deals that the clauses make, of which the first most are kept."""
    found = ways(wishes)
    for at, clause in enumerate(clauses):
        if not is_clause(clause):
            raise InvalidClause(at)
    deals = {}
    for clause in clauses:
        for way in found:
            if _lets(clause, way, roads):
                deals[way] = True
    return list(deals)[:most]


def wishes_fault(wishes):
    """The index of the first item of any value that is no wish list, -1 for the whole; None for wishes."""
    if not is_listing(wishes) or len(wishes) == 0:
        return -1
    for at, rooms in enumerate(wishes):
        if not is_listing(rooms) or not all([is_name(room) for room in rooms]) or has_double(rooms):
            return at
    return None


def is_clause(value):
    """Whether any value is a clause."""
    if not isinstance(value, tuple):
        return False
    if value in PLAIN_CLAUSES:
        return True
    return len(value) == 2 and value[0] in COUNTING_WORDS and is_number(value[1], 0, None)


def _all_places(wishes):
    """Each tuple with a place for each member."""
    rows = [()]
    for rooms in wishes:
        rows = [(*row, place) for row in rows for place in range(len(rooms) + 1)]
    return rows


def _way_at(wishes, places):
    return tuple([rooms[place] if place < len(rooms) else OUT for rooms, place in zip(wishes, places)])


def _lets(clause, way, roads):
    word = clause[0]
    if word == "drop":
        return way.count(OUT) <= clause[1]
    if OUT in way:
        return False
    if word == "together":
        return way.count(way[0]) == len(way)
    return word == "any" or _are_near(way, clause[1], roads)


def _are_near(way, k, roads):
    """Whether any two rooms of a way have a distance of at most k."""
    rooms = sorted(set(way))
    for at, one in enumerate(rooms):
        for other in rooms[:at]:
            # Where no way leads, the distance is None and so no number.
            if not is_number(roads.distance(one, other), 0, k):
                return False
    return True
