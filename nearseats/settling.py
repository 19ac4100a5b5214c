"""Settling: whether the seats of a book have a stable assignment."""

from nearseats.assignments import Assignment
from nearseats.outlook import Outlook
from nearseats.trees import BLOCK, OVER, SPLIT, leaves


class Stable:
    """A stable assignment, which settles a book."""

    def __init__(self, assignment):
        self.assignment = assignment

    def __eq__(self, other):
        return isinstance(other, Stable) and self.assignment == other.assignment

    def __bool__(self):
        return True

    def __repr__(self):
        return f"Stable({len(self.assignment)} of {len(self.assignment.deals())})"


class Never:
    """A tree which shows that no assignment of a book is stable."""

    def __init__(self, tree):
        self.tree = tree

    def __eq__(self, other):
        return isinstance(other, Never) and self.tree == other.tree

    def __bool__(self):
        return False

    def __repr__(self):
        return f"Never({leaves(self.tree)} leaves)"


def settle(book):
    """A Stable with the first stable assignment, or a Never with the plain tree."""
    deals, tree = _first_or_tree(Outlook(book), [])
    return Never(tree) if deals is None else Stable(Assignment(book, deals))


def _first_or_tree(outlook, decided):
    """The first stable list of deals that goes on from a partial assignment, or None, and then its plain tree."""
    over = outlook.rooms_over(decided)
    if over:
        return None, (OVER, over[0])
    number = outlook.first_blocking(decided)
    if number is not None:
        return None, (BLOCK, number)
    choices = outlook.choices(decided)
    if choices is None:
        return decided, None
    branches = []
    for choice in choices:
        # No branch is left out as long as no stable assignment was found in the branches ahead of it.
        deals, tree = _first_or_tree(outlook, [*decided, choice])
        if deals is not None:
            return deals, None
        branches.append((choice, tree))
    return None, (SPLIT, tuple(branches))
