"""Books that are made by chance, the same ones for each seed."""

import random

from nearseats.assignments import Assignment
from nearseats.books import Book


def random_deals(chance, rooms, size, most):
    deals = []
    for _ in range(chance.randint(1, most)):
        deal = tuple(chance.choice([*rooms, "-"]) for _ in range(size))
        if deal.count("-") < size and deal not in deals:
            deals.append(deal)
    return deals


def random_book(seed, rooms=2, families=3, size=2, deals=3, seats=2):
    """A book with so many rooms and families, and at most so many members, deals and seats of each."""
    chance = random.Random(seed)
    names = [f"R{at}" for at in range(rooms)]
    told = []
    for at in range(families):
        members = chance.randint(1, size)
        told.append((f"f{at}", members, random_deals(chance, names, members, deals)))
    orders = []
    for _ in names:
        order = [f"{name}.{k}" for name, members, _ in told for k in range(1, members + 1)]
        chance.shuffle(order)
        # Now and then a room does not take everyone.
        orders.append(order[:-1] if chance.random() < 0.3 else order)
    return Book([(name, chance.randint(0 if chance.random() < 0.2 else 1, seats)) for name in names], told, orders)


def random_assignment(seed, book):
    chance = random.Random(seed)
    return Assignment(book, [chance.choice([None, *book.numbers(family)]) for family in book.family_names()])


def random_seats(seed, book):
    chance = random.Random(seed)
    return [chance.randint(0, 3) for _ in book.room_names()]
