"""The lines of the text of a desk, taken one by one."""

from nearseats.bookreader import BookReader
from nearseats.books import Book
from nearseats.lines import joined_lines, seats_line
from nearseats.names import is_known, is_name
from nearseats.papers import give_line, out_line, reason_line

BOOK = "book"
ANSWER = "answer"


class KeptReader:
    """Takes the lines behind the title of a kept answer, whose names and deals may be any ones."""

    def __init__(self):
        self.closed = False
        self.lines = [ANSWER]
        self._group = 0

    def take(self, line):
        """The word for the next line if it cannot stand, otherwise None."""
        group = group_of(line)
        if group is None or group < self._group:
            return "form"
        self._group = group
        self.lines.append(line)
        self.closed = line == "end"
        return None


class DeskReader:
    """Takes the lines behind the title of the text of a desk, and keeps what they tell."""

    def __init__(self):
        # A dict from names to pairs of a book and its kept answer, or None.
        self.books_told = {}
        self.closed = False
        self._name = None
        # What may come next beside other names, and the reader of the part whose lines are being taken, or None.
        self._due = None
        self._part = None

    def take(self, line):
        """The word for the next line if it cannot stand, otherwise None."""
        if self.closed:
            return "form"
        if self._part is not None:
            return self._take_part(line)
        if self._due == BOOK:
            return self._take_title(line)
        if self._due == ANSWER and line == ANSWER:
            self._part = KeptReader()
            return None
        if line == "end":
            self.closed = True
            return None
        return self._take_name(line)

    def _take_title(self, line):
        if line != BOOK:
            return "form"
        self._part = BookReader()
        return None

    def _take_part(self, line):
        why = self._part.take(line)
        if why is None and self._part.closed:
            self._end_part()
        return why

    def _end_part(self):
        """Keeps the book, or the kept answer, whose last line was taken."""
        part = self._part
        self._part = None
        if self._due == BOOK:
            self.books_told[self._name] = (Book(part.rooms, part.families, part.orders), None)
            self._due = ANSWER
        else:
            self.books_told[self._name] = (self.books_told[self._name][0], joined_lines(part.lines))
            self._due = None

    def _take_name(self, line):
        words = line.split(" ")
        if len(words) != 2 or words[0] != "name" or not is_name(words[1]):
            return "form"
        if is_known(words[1], self.books_told):
            return "name"
        self._name = words[1]
        self._due = BOOK
        return None


def group_of(line):
    """The number of the group of lines of an answer to which a line belongs by its form, or None."""
    if seats_line(line, "seats") is not None:
        return 0
    if give_line(line) is not None or out_line(line) is not None:
        return 1
    if reason_line(line) is not None:
        return 2
    return 3 if line == "end" else None
