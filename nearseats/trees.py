"""Trees of cases, which show that no assignment is stable for the seats of a book."""

from nearseats.errors import InvalidDeals
from nearseats.given import decided_fault
from nearseats.names import is_known, is_number
from nearseats.outlook import Outlook

OVER = "over"
BLOCK = "block"
SPLIT = "split"
FORMS = ("over", "block", "split")


class TreeFault:
    """What is wrong with a tree, and the way to the place."""

    def __init__(self, way, why):
        self.way = way
        self.why = why

    def __eq__(self, other):
        return isinstance(other, TreeFault) and self.way == other.way and self.why == other.why

    def __repr__(self):
        told = " ".join([str(item) for item in self.way])
        return f"TreeFault({told}, {self.why})"


def judge_tree(book, tree):
    """The first fault of any value as a tree for a book; None if it is taken."""
    return _first_fault(Outlook(book), [], tree)


def surely_over(book, decided):
    """The names of the rooms that a partial assignment is surely over."""
    _check_decided(book, decided)
    return Outlook(book).rooms_over(decided)


def surely_blocking(book, decided):
    """The open deals by which a partial assignment is surely blocked."""
    _check_decided(book, decided)
    return Outlook(book).blocking_deals(decided)


def leaves(tree):
    """The number of trees with `over` or `block` within a tree."""
    if tree[0] != SPLIT:
        return 1
    return sum([leaves(branch) for _, branch in tree[1]])


def _check_decided(book, decided):
    at = decided_fault(book, decided)
    if at is not None:
        raise InvalidDeals(at)


def _first_fault(outlook, decided, tree):
    """The first fault of any value as a tree for a partial assignment, which is also the way to it."""
    why = _why_wrong(outlook, decided, tree)
    if why is not None:
        return TreeFault(tuple(decided), why)
    if tree[0] == SPLIT:
        for choice, branch in tree[1]:
            fault = _first_fault(outlook, [*decided, choice], branch)
            if fault is not None:
                return fault
    return None


def _why_wrong(outlook, decided, tree):
    """The word of the fault of any value as a tree, without its branches; None if there is no fault."""
    if not _is_tree(tree):
        return "form"
    kind, told = tree
    if kind == SPLIT:
        return None if _are_branches(told, outlook.choices(decided)) else "gap"
    if kind == OVER:
        return None if is_known(told, outlook.rooms_over(decided)) else OVER
    known = is_number(told, 0, outlook.book.many_open - 1)
    return None if known and outlook.is_blocked(decided, told) else BLOCK


def _is_tree(value):
    """Whether any value has one of the three forms, whatever its branches are."""
    if not _is_pair(value) or not is_known(value[0], FORMS):
        return False
    return value[0] != SPLIT or (isinstance(value[1], tuple) and all([_is_pair(branch) for branch in value[1]]))


def _is_pair(value):
    return isinstance(value, tuple) and len(value) == 2


def _are_branches(branches, choices):
    """Whether there is one branch for each of these choices, in this order; choices may be None, for no split."""
    if choices is None or len(branches) != len(choices):
        return False
    return all([_is_same(told, choice) for (told, _), choice in zip(branches, choices)])


def _is_same(value, choice):
    """Whether any value is this choice."""
    # Without is_number, True would stand for the deal 1.
    return value is None if choice is None else is_number(value, choice, choice)
