"""Tries: blocking deals are taken one after the other, until they end or go round in a ring."""

from nearseats.assignments import Assignment
from nearseats.blocking import is_blocking
from nearseats.errors import Finished, InvalidOrder, NothingLeft, Overfull, UnknownDeal
from nearseats.given import check_open, meant_seats, over_fault
from nearseats.names import is_known, member_parts
from nearseats.occupancy import Occupancy

HIGHEST = "highest"
TURN = "turn"
ORDERS = ("lowest", "highest", "turn")


class Try:
    """A try for some seats, which takes blocking deals in one of the three orders."""

    def __init__(self, assignment, *, order="lowest", seats=None):
        self._seats = meant_seats(assignment.book, seats)
        if not is_known(order, ORDERS):
            raise InvalidOrder(order)
        at = over_fault(assignment, self._seats)
        if at is not None:
            raise Overfull(at)
        self._order = order
        self._log = []
        # A triple for each number of steps: the assignment, the turn, and the deal that the next step takes, or None.
        self._stages = []
        # The number of steps at which something was present first, by the keys of _key.
        self._met = {}
        self._enter(assignment, 0)

    @property
    def present(self):
        """The present assignment."""
        return self._stages[-1][0]

    @property
    def turn(self):
        """The index of the family whose turn it is."""
        return self._stages[-1][1]

    @property
    def many_steps(self):
        """The number of the steps that were done and not taken back."""
        return len(self._log)

    @property
    def rests(self):
        """Whether no deal blocks the present assignment."""
        return self._stages[-1][2] is None

    @property
    def ring(self):
        """The earlier number of steps and the length of the ring, if the try has come round; None otherwise."""
        earlier = self._met[self._key()]
        steps = len(self._log)
        return None if earlier == steps else (earlier, steps - earlier)

    @property
    def ended(self):
        """Whether there is no further step."""
        return self.rests or self.ring is not None

    def step(self):
        """Does a step, and returns the number of the deal that was taken."""
        if self.ended:
            raise Finished()
        book = self.present.book
        number = self._stages[-1][2]
        found = behind_step(self.present, number, self._seats)
        self._log.append(number)
        self._enter(found, (book.family_of(number) + 1) % len(book))
        return number

    def run(self, *, most=None):
        """Does steps until the try has ended, or so many were done, and returns their number."""
        done = 0
        while not self.ended and (most is None or done < most):
            self.step()
            done += 1
        return done

    def log(self):
        """The numbers of the deals that were taken."""
        return list(self._log)

    def undo(self):
        """Takes the last step back."""
        if not self._log:
            raise NothingLeft()
        if self.ring is None:
            del self._met[self._key()]
        self._stages.pop()
        self._log.pop()

    def twin(self):
        """An independent try in the same state."""
        made = Try(self._stages[0][0], order=self._order, seats=self._seats)
        made._log = list(self._log)
        made._stages = list(self._stages)
        made._met = {key: self._met[key] for key in self._met}
        return made

    def __repr__(self):
        return f"Try({len(self._log)} steps)"

    def _key(self):
        """What is present, as far as it counts for having come round."""
        return (tuple(self.present.deals()), self.turn if self._order == TURN else 0)

    def _enter(self, assignment, turn):
        """Makes an assignment and a turn present, behind the steps of the log."""
        self._stages.append((assignment, turn, due_deal(assignment, self._order, turn, self._seats)))
        if self._key() not in self._met:
            self._met[self._key()] = len(self._log)


def after(assignment, number, *, seats=None):
    """The assignment behind the step that takes a blocking deal."""
    rooms = Occupancy(assignment, seats)
    check_open(assignment.book, number)
    if not is_blocking(rooms, number):
        raise UnknownDeal(number)
    return behind_step(assignment, number, seats)


def behind_step(assignment, number, seats):
    """The assignment behind the step that takes this deal; nothing is checked."""
    book = assignment.book
    names = book.family_names()
    moved = assignment.with_deal(names[book.family_of(number)], number)
    leaving = {member_parts(member)[0]: True for member in Occupancy(moved, seats).not_chosen()}
    return Assignment(book, [None if name in leaving else given for name, given in zip(names, moved.deals())])


def due_deal(assignment, order, turn, seats):
    """The blocking deal that a step takes in an order of tries; None if no deal blocks."""
    rooms = Occupancy(assignment, seats)
    for number in deals_in_order(assignment.book, order, turn):
        if is_blocking(rooms, number):
            return number
    return None


def deals_in_order(book, order, turn):
    """All open deals, in the order in which a step looks for one that blocks."""
    if order == TURN:
        names = book.family_names()
        return [number for name in names[turn:] + names[:turn] for number in book.numbers(name)]
    numbers = list(range(book.many_open))
    return numbers[::-1] if order == HIGHEST else numbers
