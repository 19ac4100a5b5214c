"""Rules texts: books whose lists of deals and orders may be made from wishes and points."""

from nearseats.bookreader import BookReader
from nearseats.books import Book
from nearseats.checks import has_double
from nearseats.clauses import listed
from nearseats.errors import BadRules
from nearseats.lines import family_head, headed_line, text_fault
from nearseats.names import is_member, is_name, member_name, member_parts, written_number
from nearseats.roads import Roads


def read_rules(text):
    """The book that a rules text makes."""
    reader = RulesReader()
    fault = text_fault(text, "rules", reader)
    if fault is not None:
        raise BadRules(fault[0], fault[1])
    return reader.made_book()


class RulesReader:
    """Takes the lines behind the title of a rules text, and keeps the book that they make."""

    def __init__(self):
        self.closed = False
        self._plain = BookReader()
        self._roads = []
        # The family whose lines with `member` must come next, or None: a name, a size and clauses.
        self._coming = None
        self._wishes = []

    def made_book(self):
        """The book of the lines that were taken."""
        return Book(self._plain.rooms, self._plain.families, self._plain.orders)

    def take(self, line):
        """The word for the next line if it cannot stand, otherwise None."""
        kind = line.partition(" ")[0]
        if self._coming is not None:
            return self._take_member(line)
        if kind == "road":
            return self._take_road(line)
        if kind == "points":
            return self._take_points(line)
        coming = coming_family(line)
        if coming is not None:
            return self._take_coming(coming)
        return self._take_plain(kind, line)

    def _take_plain(self, kind, line):
        if kind == "room" and self._roads:
            return "form"
        why = self._plain.take(line)
        self.closed = self._plain.closed
        return why

    def _take_road(self, line):
        road = road_line(line)
        if road is None or not self._plain.wants_rooms():
            return "form"
        if not self._has_rooms([road[0], road[1]]):
            return "name"
        if road[0] == road[1]:
            return "double"
        self._roads.append(road)
        return None

    def _take_coming(self, coming):
        if not self._plain.wants_families():
            return "form"
        if coming[0] in self._plain.sizes:
            return "name"
        self._coming = coming
        self._wishes = []
        return None

    def _take_member(self, line):
        told = headed_line(line, "member")
        if told is None or not is_member(told[0]) or not all([is_name(room) for room in told[1]]):
            return "form"
        name, size, _ = self._coming
        if told[0] != member_name(name, len(self._wishes) + 1) or not self._has_rooms(told[1]):
            return "name"
        if has_double(told[1]):
            return "double"
        self._wishes.append(told[1])
        if len(self._wishes) == size:
            self._put_coming()
        return None

    def _put_coming(self):
        name, size, clauses = self._coming
        roads = Roads([room for room, _ in self._plain.rooms], self._roads)
        self._plain.put_family((name, size, listed(self._wishes, clauses, roads)))
        self._coming = None

    def _take_points(self, line):
        told = points_line(line)
        if told is None or not self._plain.wants_orders():
            return "form"
        room, points = told
        why = self._plain.why_order(room, [member for member, _ in points])
        if why is None:
            self._plain.put_order(ranked_members(points, list(self._plain.sizes)))
        return why

    def _has_rooms(self, rooms):
        return all([room in self._plain.known_rooms for room in rooms])


def road_line(line):
    """The triple that a line with `road` tells; None for any other form."""
    words = line.split(" ")
    if len(words) != 4 or words[0] != "road" or not is_name(words[1]) or not is_name(words[2]):
        return None
    length = written_number(words[3])
    return None if length is None or length == 0 else (words[1], words[2], length)


def coming_family(line):
    """The name, the size and the clauses of a line with `family` and `by`; None for any other form."""
    words = line.split(" ")
    head = family_head(words, "by")
    clauses = clauses_of(words[4:])
    return None if head is None or not clauses else (head[0], head[1], clauses)


def clauses_of(words):
    """The clauses that are written with these words; None if the words write anything else."""
    clauses = []
    at = 0
    while at < len(words):
        if words[at] in ("together", "any"):
            clauses.append((words[at],))
            at += 1
        elif words[at] in ("within", "drop") and at + 1 < len(words):
            clauses.append((words[at], written_number(words[at + 1])))
            at += 2
        else:
            return None
    return None if ("within", None) in clauses or ("drop", None) in clauses else clauses


def points_line(line):
    """The room, and the pairs of members and points, that a line with `points` tells; None for any other form."""
    told = headed_line(line, "points")
    if told is None or not is_name(told[0]) or len(told[1]) % 2 != 0:
        return None
    members = told[1][::2]
    points = [written_number(word) for word in told[1][1::2]]
    if None in points or not all([is_member(member) for member in members]):
        return None
    return (told[0], list(zip(members, points)))


def ranked_members(points, families):
    """The members of these pairs, those with more points first; families are the names in their order."""
    keys = []
    for member, many in points:
        family, k = member_parts(member)
        keys.append((-many, families.index(family), k))
    return [member_name(families[at], k) for _, at, k in sorted(keys)]
