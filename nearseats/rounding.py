"""Roundings: dominating shares become a deal, or none, for each family, while rooms are released."""

from nearseats.assignments import Assignment
from nearseats.errors import Finished, NotEnded, NothingLeft, NotReleasable
from nearseats.names import is_known
from nearseats.regions import Region
from nearseats.shares import Shares, check_shares, full_rows
from nearseats.tables import ROOM, Table

VERTEX = "vertex"
RELEASE = "release"


class Stage:
    """The state of a rounding between two steps."""

    def __init__(self, point, fixed, freed, due):
        # The present shares; a dict from the settled deals to 0 or 1; the released rooms; the kind of the next step.
        self.point = point
        self.fixed = fixed
        self.freed = freed
        self.due = due


class Rounding:
    """A rounding, which begins with dominating shares of a book."""

    def __init__(self, book, shares):
        table = Table(book)
        check_shares(table, shares)
        self.book = book
        self._table = table
        self._full = full_rows(table, shares)
        zeros = {number: 0 for number, share in enumerate(shares.numbers()) if share == 0}
        # Stages are never changed, so that a step is taken back by leaving out the last one.
        self._stages = [Stage(shares, zeros, (), VERTEX)]

    @property
    def present(self):
        """The present shares."""
        return self._stages[-1].point

    @property
    def next_kind(self):
        """The kind of the next step; None if the rounding has ended."""
        return self._stages[-1].due

    @property
    def ended(self):
        """Whether there is no further step."""
        return self.next_kind is None

    def unsettled(self):
        """The ascending list of the deals that are not settled."""
        fixed = self._stages[-1].fixed
        return [number for number in range(self.book.many_open) if number not in fixed]

    def settled(self):
        """A dict from the settled deals, ascending, to 0 or 1."""
        fixed = self._stages[-1].fixed
        return {number: fixed[number] for number in sorted(fixed)}

    def released(self):
        """The names of the released rooms, in the order in which they were released."""
        return list(self._stages[-1].freed)

    def full(self):
        """The ascending list of the rows that were full at the beginning."""
        return list(self._full)

    def region(self):
        """The region of the present state, with an unknown for each deal that is not settled."""
        fixed = self._stages[-1].fixed
        freed = self._stages[-1].freed
        unsettled = self.unsettled()
        rows = []
        for row, (kind, name) in enumerate(self._table.rows()):
            if kind != ROOM or name not in freed:
                given = sum([self._entry(row, number) for number, worth in fixed.items() if worth == 1])
                entries = tuple([self._entry(row, number) for number in unsettled])
                rows.append((entries, self._table.plain_bound(row) - given, row in self._full))
        return Region(len(unsettled), *rows)

    def weight_list(self):
        """The weights for the region: what each deal that is not settled has in the full rows of rooms."""
        rows = [row for row in self._full if self._table.rows()[row][0] == ROOM]
        return [sum([self._entry(row, number) for row in rows]) for number in self.unsettled()]

    def releasable(self):
        """The names of the rooms that can be released; none unless a release step is next."""
        if self.next_kind != RELEASE:
            return []
        full = full_rows(self._table, self.present)
        return [room for room in self.book.room_names() if self._can_leave(room, full)]

    def step(self):
        """Does the next step; returns `vertex`, or the name of the room that was released."""
        kind = self.next_kind
        if kind is None:
            raise Finished()
        if kind == VERTEX:
            self._stages.append(self._behind_vertex())
            return VERTEX
        room = self.releasable()[0]
        self.release(room)
        return room

    def release(self, room):
        """Does the release step with this room."""
        if not is_known(room, self.releasable()):
            raise NotReleasable(room)
        stage = self._stages[-1]
        self._stages.append(Stage(stage.point, stage.fixed, (*stage.freed, room), VERTEX))

    def run(self):
        """Does steps until the rounding has ended, and returns their number."""
        before = len(self._stages)
        while not self.ended:
            self.step()
        return len(self._stages) - before

    def undo(self):
        """Takes the last step back."""
        if len(self._stages) == 1:
            raise NothingLeft()
        self._stages.pop()

    def twin(self):
        """An independent rounding in the same state."""
        made = Rounding(self.book, self._stages[0].point)
        made._stages = list(self._stages)
        return made

    def final(self):
        """The assignment that gives the deals that are settled as 1."""
        if not self.ended:
            raise NotEnded()
        deals = [None for _ in range(len(self.book))]
        for number, worth in self._stages[-1].fixed.items():
            if worth == 1:
                deals[self.book.family_of(number)] = number
        return Assignment(self.book, deals)

    def found_seats(self):
        """The found seats of each room."""
        counts = self.final().counts()
        full_rooms = [self._table.rows()[row] for row in self._full]
        found = []
        for at, (room, seats) in enumerate(zip(self.book.room_names(), self.book.seats())):
            found.append(counts[at] if (ROOM, room) in full_rooms else max(seats, counts[at]))
        return found

    def __repr__(self):
        return f"Rounding({len(self.unsettled())} unsettled)"

    def _entry(self, row, number):
        return self._table.entry(row, self._table.column_of(number))

    def _can_leave(self, room, full):
        """Whether a room can be released; full has the rows that are full for the present shares."""
        row = self._table.row_of(ROOM, room)
        if row not in full or room in self._stages[-1].freed:
            return False
        return 1 <= sum([self._entry(row, number) for number in self.unsettled()]) <= 2 * self.book.width - 1

    def _behind_vertex(self):
        """The stage behind a vertex step."""
        stage = self._stages[-1]
        vertex = self.region().greatest(self.weight_list())
        numbers = {number: worth * vertex.below for number, worth in stage.fixed.items()}
        fixed = dict(stage.fixed)
        for number, share in zip(self.unsettled(), vertex.numbers()):
            numbers[number] = share
            if share in (0, vertex.below):
                fixed[number] = share // vertex.below
        many = self.book.many_open
        point = Shares([numbers[number] for number in range(many)], below=vertex.below)
        return Stage(point, fixed, stage.freed, None if len(fixed) == many else RELEASE)
