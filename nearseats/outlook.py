"""What is sure of partial assignments, whatever the undecided families get."""


class Outlook:
    """The rooms and the open deals of a book, for partial assignments.

    A partial assignment is a list with the number of an open deal, or None, for each of the decided families.
    """

    def __init__(self, book):
        self.book = book
        self._rooms = list(zip(book.room_names(), book.seats()))
        self._numbers = [book.numbers(family) for family in book.family_names()]
        # How many members each open deal sends to each room.
        self._counts = [[book.deal(number).count(room) for room, _ in self._rooms] for number in range(book.many_open)]
        # What rivals_at tells, by the pairs of an open deal and a room that were asked for.
        self._rivals = {}

    def choices(self, decided):
        """What the next family may get: the numbers of its open deals, and None; None if all families are decided."""
        return [*self._numbers[len(decided)], None] if len(decided) < len(self._numbers) else None

    def rooms_over(self, decided):
        """The names of the rooms that a partial assignment is surely over."""
        counts = [self._counts[number] for number in decided if number is not None]
        totals = [sum([sent[at] for sent in counts]) for at in range(len(self._rooms))]
        return [room for (room, seats), total in zip(self._rooms, totals) if total > seats]

    def is_blocked(self, decided, number):
        """Whether an open deal surely blocks a partial assignment."""
        family = self.book.family_of(number)
        if family >= len(decided) or (decided[family] is not None and decided[family] <= number):
            return False
        deal = self.book.deal(number)
        for room, _ in self._rooms:
            if room in deal and not self._is_sure_of(decided, number, room):
                return False
        return True

    def blocking_deals(self, decided):
        """The ascending list of the open deals that surely block a partial assignment."""
        return [number for number in range(self.book.many_open) if self.is_blocked(decided, number)]

    def first_blocking(self, decided):
        """The least open deal that surely blocks a partial assignment; None if there is none."""
        for number in range(self.book.many_open):
            if self.is_blocked(decided, number):
                return number
        return None

    def _is_sure_of(self, decided, number, room):
        """Whether a room chooses all members that an open deal sends there, whatever the undecided families get."""
        if (number, room) not in self._rivals:
            self._rivals[number, room] = rivals_at(self.book, number, room)
        limit, by_deal, undecided = self._rivals[number, room]
        return sum([by_deal[other] for other in decided if other is not None]) + undecided[len(decided)] <= limit


def rivals_at(book, number, room):
    """The members ahead of the last one that an open deal sends to a room, and how many of them it can bear.

    Tells a triple: with how many of them the room still chooses all members of the deal; how many of them each open
    deal sends there; and, for each number of decided families, how many of them the undecided families may send.
    """
    sent = book.sent(number, room)
    order = book.order(room)
    last = max([order.index(member) for member in sent])
    ahead = {member: True for member in order[:last] if member not in sent}
    coming = [[member for member in book.sent(other, room) if member in ahead] for other in range(book.many_open)]
    family_of = {member: book.family_of(other) for other, members in enumerate(coming) for member in members}
    undecided = [len([at for at in family_of.values() if at >= many]) for many in range(len(book) + 1)]
    return (book.room_seats(room) - len(sent), [len(members) for members in coming], undecided)
