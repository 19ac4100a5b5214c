"""The lines of the text of an answer: how they are read and written."""

from nearseats.checks import is_deal
from nearseats.lines import headed_line, seats_line, with_words
from nearseats.names import is_name
from nearseats.reasons import BETTER_DEAL, is_reason, room_reason


class PaperReader:
    """Takes the lines behind the title of the text of an answer for a book, and keeps what they tell."""

    def __init__(self, book):
        self.seats_told = []
        self.deals_told = []
        self.reasons_told = {}
        self.closed = False
        self._book = book
        self._rooms = book.room_names()
        self._families = book.family_names()

    def take(self, line):
        """The word for the next line if it cannot stand, otherwise None."""
        if self.closed:
            return "form"
        if line == "end":
            return self._take_end()
        kind = line.partition(" ")[0]
        if kind == "seats":
            return self._take_seats(line)
        if kind == "give":
            return self._take_give(line)
        if kind == "out":
            return self._take_out(line)
        if kind == "reason":
            return self._take_reason(line)
        return "form"

    def _wants_deals(self):
        """Whether the deal of a family must come next."""
        return len(self.seats_told) == len(self._rooms) and len(self.deals_told) < len(self._families)

    def _wants_reasons(self):
        """Whether the seats and the deals have all been told."""
        return len(self.seats_told) == len(self._rooms) and len(self.deals_told) == len(self._families)

    def _take_end(self):
        if not self._wants_reasons():
            return "form"
        self.closed = True
        return None

    def _take_seats(self, line):
        told = seats_line(line, "seats")
        at = len(self.seats_told)
        if told is None or at == len(self._rooms):
            return "form"
        if told[0] != self._rooms[at]:
            return "name"
        self.seats_told.append(told[1])
        return None

    def _take_give(self, line):
        told = give_line(line)
        if told is None or not self._wants_deals():
            return "form"
        if not self._is_next_family(told[0]):
            return "name"
        number = self._book.number_of(told[0], told[1])
        if number is None:
            return "deal"
        self.deals_told.append(number)
        return None

    def _take_out(self, line):
        family = out_line(line)
        if family is None or not self._wants_deals():
            return "form"
        if not self._is_next_family(family):
            return "name"
        self.deals_told.append(None)
        return None

    def _is_next_family(self, family):
        return family == self._families[len(self.deals_told)]

    def _take_reason(self, line):
        told = reason_line(line)
        if told is None or not self._wants_reasons():
            return "form"
        family, room, deal = told
        if family not in self._families or not (room is None or room in self._rooms):
            return "name"
        number = self._book.number_of(family, deal)
        if number is None:
            return "deal"
        if number in self.reasons_told:
            return "double"
        self.reasons_told[number] = BETTER_DEAL if room is None else room_reason(room)
        return None


def told_deal(words):
    """The deal that these words write; None if they write none."""
    deal = tuple(words)
    return deal if deal and is_deal(deal, len(deal)) else None


def give_line(line):
    """The family and the deal that a line with `give` tells; None for any other form."""
    told = headed_line(line, "give")
    if told is None or not is_name(told[0]):
        return None
    deal = told_deal(told[1])
    return None if deal is None else (told[0], deal)


def out_line(line):
    """The family that a line with `out` tells; None for any other form."""
    words = line.split(" ")
    return words[1] if len(words) == 2 and words[0] == "out" and is_name(words[1]) else None


def reason_line(line):
    """The family, the room or None, and the deal that a line with `reason` tells; None for any other form."""
    head, _, tail = line.partition(" : ")
    words = head.split(" ")
    deal = told_deal(tail.split(" "))
    if deal is None or len(words) < 3 or words[0] != "reason" or not is_name(words[1]):
        return None
    if words[2:] == ["family"]:
        return (words[1], None, deal)
    if len(words) == 4 and words[2] == "room" and is_name(words[3]):
        return (words[1], words[3], deal)
    return None


def paper_lines(book, seats, deals, reasons):
    """The lines of the text of an answer with these parts; reasons is a dict with any values."""
    rooms = book.room_names()
    families = book.family_names()
    lines = ["answer"]
    for room, many in zip(rooms, seats):
        lines.append(f"seats {room} {many}")
    for family, number in zip(families, deals):
        lines.append(f"out {family}" if number is None else with_words(f"give {family} :", book.deal(number)))
    for number in range(book.many_open):
        reason = reasons.get(number)
        if is_reason(reason, rooms):
            head = f"reason {families[book.family_of(number)]} {reason} :"
            lines.append(with_words(head, book.deal(number)))
    lines.append("end")
    return lines
