"""Desks: changing books under different names, and the scripts that change them."""

from nearseats.books import Book
from nearseats.changes import with_deals, with_family, with_order, with_room, with_seats, without_family
from nearseats.deskreader import DeskReader
from nearseats.errors import BadDesk, UnknownBook
from nearseats.lines import text_fault
from nearseats.names import is_known
from nearseats.outcomes import line_outcome
from nearseats.placing import place
from nearseats.scriptlines import CHANGING, UNDO, told_line, why_not

DONE = "done"


class Desk:
    """Books under different names, each with a kept answer or none."""

    def __init__(self):
        # A dict from names to pairs of a book and its kept answer, or None. It is never changed, but replaced.
        self._shelf = {}
        # What the shelf was ahead of each changing line that has not been taken back.
        self._past = []

    @staticmethod
    def read(text):
        """The desk of a text."""
        reader = DeskReader()
        fault = text_fault(text, "desk", reader)
        if fault is not None:
            raise BadDesk(fault[0], fault[1])
        made = Desk()
        made._shelf = reader.books_told
        return made

    def run(self, script):
        """Does the lines of a script, and returns the list of their outcomes."""
        if not isinstance(script, str):
            raise BadDesk(0, "form")
        work = self.twin()
        outcomes = []
        lines = script.split("\n")
        last = len(lines) - 1
        for at in range(last):
            told = told_line(lines[at])
            why = "form" if told is None else work._why_not(told)
            if why is not None:
                raise BadDesk(at, why)
            outcomes.append(work._outcome(told))
        # What stands behind the last line feed is a line that lacks its own.
        if lines[last] != "":
            raise BadDesk(last, "form")
        self._shelf = work._shelf
        self._past = work._past
        return outcomes

    def trial(self, script):
        """The outcomes of a script, while the desk stays as it is."""
        return self.twin().run(script)

    def names(self):
        """The names of the books."""
        return list(self._shelf)

    def kept(self, name):
        """The kept answer of a book, or None."""
        return self._pair(name)[1]

    @property
    def many_changes(self):
        """The number of the changing lines that could be taken back."""
        return len(self._past)

    def twin(self):
        """An independent desk in the same state."""
        made = Desk()
        made._shelf = self._shelf
        made._past = list(self._past)
        return made

    def text(self):
        """The text of the desk."""
        parts = ["desk\n"]
        for name, (book, kept) in self._shelf.items():
            parts.append(f"name {name}\n")
            parts.append(book.text())
            parts.append("" if kept is None else kept)
        parts.append("end\n")
        return "".join(parts)

    def __getitem__(self, name):
        return self._pair(name)[0]

    def __iter__(self):
        raise TypeError("a desk is asked by the names of books")

    def __contains__(self, name):
        return is_known(name, self._shelf)

    def __len__(self):
        return len(self._shelf)

    def __bool__(self):
        return True

    def __repr__(self):
        return f"Desk({len(self._shelf)} books)"

    def _pair(self, name):
        if not is_known(name, self._shelf):
            raise UnknownBook(name)
        return self._shelf[name]

    def _why_not(self, told):
        """The word for a line of a script if it cannot be done now; None otherwise."""
        if told[0] == UNDO:
            return None if self._past else "nothing"
        return why_not(self._shelf, told)

    def _outcome(self, told):
        """Does a line of a script, and returns its outcome."""
        kind, name, rest = told
        if kind == UNDO:
            self._shelf = self._past.pop()
            return DONE
        if kind not in CHANGING:
            book, kept = self._shelf[name]
            return line_outcome(book, kept, kind, rest)
        self._past.append(self._shelf)
        self._shelf = changed_shelf(self._shelf, kind, name, rest)
        return self._shelf[name][1] if kind == "place" else DONE


def changed_shelf(shelf, kind, name, rest):
    """The shelf behind a changing line; rest is what the line tells behind the name."""
    if kind == "open":
        return {**shelf, name: (Book.empty(), None)}
    if kind == "copy":
        return {**shelf, rest: shelf[name]}
    if kind == "drop":
        return {other: shelf[other] for other in shelf if other != name}
    book, kept = shelf[name]
    if kind == "place":
        return {**shelf, name: (book, place(book).text(book))}
    return {**shelf, name: (changed_book(book, kind, rest), kept)}


def changed_book(book, kind, rest):
    """The book behind a line that changes it."""
    if kind == "room":
        return with_room(book, rest[0], rest[1])
    if kind == "seats":
        return with_seats(book, rest[0], rest[1])
    if kind == "order":
        return with_order(book, rest[0], rest[1])
    if kind == "family":
        return with_family(book, rest[0], rest[1], rest[2])
    if kind == "list":
        return with_deals(book, rest[0], rest[1])
    return without_family(book, rest)
