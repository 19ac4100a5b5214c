"""Regions: the points that keep to some rows, and their vertices."""

from nearseats.bases import independent_rows
from nearseats.checks import is_listing
from nearseats.corners import Corner
from nearseats.errors import InvalidRegion, InvalidShares, NoPoint, Unbounded
from nearseats.names import is_any_number, is_number
from nearseats.shares import Shares, numbers_fault


class Region:
    """A number of unknowns, and rows that bound their sums."""

    def __init__(self, unknowns, *rows):
        at = region_fault(unknowns, rows)
        if at is not None:
            raise InvalidRegion(at)
        self._unknowns = unknowns
        self._rows = [(tuple(numbers), bound, exact) for numbers, bound, exact in rows]

    def rows(self):
        """The triples of the rows, with tuples of integers."""
        return list(self._rows)

    def __contains__(self, point):
        if not isinstance(point, Shares) or len(point) != self._unknowns:
            return False
        if any([number < 0 for number in point.numbers()]):
            return False
        spares = spares_at(self._rows, point)
        return all([spare >= 0 and not (exact and spare > 0) for spare, (_, _, exact) in zip(spares, self._rows)])

    def tight(self, point):
        """The ascending list of the indexes of the rows whose sums are equal to their bounds."""
        if point not in self:
            raise NoPoint()
        return [at for at, spare in enumerate(spares_at(self._rows, point)) if spare == 0]

    def is_vertex(self, point):
        """Whether a point is a vertex."""
        if point not in self:
            raise NoPoint()
        above = [at for at, number in enumerate(point.numbers()) if number > 0]
        return independent_rows([[self._rows[row][0][at] for at in above] for row in self.tight(point)]) == len(above)

    def greatest(self, weights):
        """A vertex that is greatest for these weights."""
        at = self._weights_fault(weights)
        if at is not None:
            raise InvalidShares(at)
        corner = Corner(self._unknowns, self._rows)
        if not corner.has_point():
            raise NoPoint()
        if not corner.rise(weights):
            raise Unbounded()
        return corner.shares()

    def is_empty(self):
        """Whether the region has no point."""
        return not Corner(self._unknowns, self._rows).has_point()

    def __len__(self):
        return len(self._rows)

    def __bool__(self):
        return True

    def __repr__(self):
        return f"Region({self._unknowns} unknowns, {len(self._rows)} rows)"

    def _weights_fault(self, weights):
        """The index of the first of any values that is no weight, -1 for the whole; None for weights."""
        at = numbers_fault(weights, 1)
        return -1 if at == -1 or len(weights) != self._unknowns else at


def region_fault(unknowns, rows):
    """The index of the first of any values that is no row, -1 for wrong unknowns; None for a region."""
    if not is_number(unknowns, 0, None):
        return -1
    for at, row in enumerate(rows):
        if not is_row(row, unknowns):
            return at
    return None


def is_row(value, unknowns):
    """Whether any value is a row of a region with so many unknowns."""
    if not isinstance(value, tuple) or len(value) != 3:
        return False
    numbers, bound, exact = value
    if not is_any_number(bound) or not isinstance(exact, bool):
        return False
    return is_listing(numbers) and len(numbers) == unknowns and all([is_any_number(number) for number in numbers])


def spares_at(rows, point):
    """What is left of the bound of each row at a point, multiplied by the number below of the point."""
    shares = point.numbers()
    spares = []
    for numbers, bound, _ in rows:
        told = sum([number * share for number, share in zip(numbers, shares)])
        spares.append(bound * point.below - told)
    return spares
