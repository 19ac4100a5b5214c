"""Points of regions as fractions: what [24] says of them, in the plainest way."""

from fractions import Fraction
from itertools import combinations

import fractionbases
from nearseats.shares import Shares


def fractions_of(shares):
    return [Fraction(number, shares.below) for number in shares.numbers()]


def shares_of(point):
    below = 1
    for item in point:
        below *= item.denominator
    return Shares([int(item * below) for item in point], below=below)


def total(numbers, point):
    return sum((number * item for number, item in zip(numbers, point)), Fraction(0))


def is_inside(rows, point):
    if any(item < 0 for item in point):
        return False
    return all(total(numbers, point) == bound if exact else total(numbers, point) <= bound
               for numbers, bound, exact in rows)


def corners(unknowns, rows):
    """All points of a region for which as many rows and limits of unknowns are exact, and independent, as needed."""
    limits = [[int(at == other) for at in range(unknowns)] for other in range(unknowns)]
    sides = [*[(numbers, bound) for numbers, bound, _ in rows], *[(limit, 0) for limit in limits]]
    found = []
    for told in combinations(sides, unknowns):
        columns = [[numbers[at] for numbers, _ in told] for at in range(unknowns)]
        solved = fractionbases.solved(columns, [[bound] for _, bound in told])
        if solved is not None:
            point = [row[0] for row in solved]
            if is_inside(rows, point) and point not in found:
                found.append(point)
    return found


def random_rows(chance, unknowns, many):
    rows = []
    for _ in range(many):
        numbers = [chance.randint(-3, 3) for _ in range(unknowns)]
        rows.append((numbers, chance.randint(-3, 4), chance.random() < 0.35))
    if many > 1 and chance.random() < 0.4:
        # A row that depends on another one, or contradicts it.
        one, other = chance.sample(range(many), 2)
        times = chance.randint(1, 2)
        bound = times * rows[other][1] + chance.choice((0, 0, 1))
        rows[one] = ([times * number for number in rows[other][0]], bound, rows[one][2])
    return rows
