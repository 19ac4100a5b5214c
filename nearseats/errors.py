"""The errors of the package, one class for each kind of failure."""


class SeatError(ValueError):
    """A value that the package cannot work with."""


class BadBook(SeatError):
    """A line of a book that cannot stand."""

    def __init__(self, line, why):
        self.code = "BadBook"
        self.line = line
        self.why = why


class BadRules(SeatError):
    """A line of a rules text that cannot stand."""

    def __init__(self, line, why):
        self.code = "BadRules"
        self.line = line
        self.why = why


class BadPaper(SeatError):
    """A line of the text of an answer that cannot stand."""

    def __init__(self, line, why):
        self.code = "BadPaper"
        self.line = line
        self.why = why


class BadDesk(SeatError):
    """A line of a script, or of the text of a desk, that cannot stand."""

    def __init__(self, line, why):
        self.code = "BadDesk"
        self.line = line
        self.why = why


class InvalidSeats(SeatError):
    """Seats that are none for the book."""

    def __init__(self, at):
        self.code = "InvalidSeats"
        self.at = at


class InvalidDeals(SeatError):
    """Deals that are none for the families of the book."""

    def __init__(self, at):
        self.code = "InvalidDeals"
        self.at = at


class InvalidShares(SeatError):
    """Shares, or weights, that are none."""

    def __init__(self, at):
        self.code = "InvalidShares"
        self.at = at


class InvalidColumns(SeatError):
    """A list of columns that cannot be a basis."""

    def __init__(self, at):
        self.code = "InvalidColumns"
        self.at = at


class InvalidColumn(SeatError):
    """A value that is no column that may stand there."""

    def __init__(self, value):
        self.code = "InvalidColumn"
        self.value = value


class InvalidRow(SeatError):
    """A value that is no row of the table."""

    def __init__(self, value):
        self.code = "InvalidRow"
        self.value = value


class InvalidRegion(SeatError):
    """A row of a region that is none."""

    def __init__(self, at):
        self.code = "InvalidRegion"
        self.at = at


class InvalidWishes(SeatError):
    """Wishes that are none."""

    def __init__(self, at):
        self.code = "InvalidWishes"
        self.at = at


class InvalidClause(SeatError):
    """A clause that is none."""

    def __init__(self, at):
        self.code = "InvalidClause"
        self.at = at


class InvalidRoad(SeatError):
    """A road that is none."""

    def __init__(self, at):
        self.code = "InvalidRoad"
        self.at = at


class InvalidOrder(SeatError):
    """A value that is none of the orders of a try."""

    def __init__(self, value):
        self.code = "InvalidOrder"
        self.value = value


class InvalidPlace(SeatError):
    """A value that is no place at which members can be exchanged."""

    def __init__(self, value):
        self.code = "InvalidPlace"
        self.value = value


class Overfull(SeatError):
    """A row, or a room, with too much in it."""

    def __init__(self, at):
        self.code = "Overfull"
        self.at = at


class NotDominating(SeatError):
    """An open deal that no row dominates."""

    def __init__(self, number):
        self.code = "NotDominating"
        self.number = number


class Dependent(SeatError):
    """Columns that are not independent."""

    def __init__(self):
        self.code = "Dependent"


class NotFeasible(SeatError):
    """A basis that is not feasible."""

    def __init__(self):
        self.code = "NotFeasible"


class NotOrdinal(SeatError):
    """Columns that are not an ordinal set."""

    def __init__(self):
        self.code = "NotOrdinal"


class NotComplete(SeatError):
    """Columns that are not a complete set."""

    def __init__(self):
        self.code = "NotComplete"


class NotStable(SeatError):
    """An assignment that a deal blocks."""

    def __init__(self, number):
        self.code = "NotStable"
        self.number = number


class NotReleasable(SeatError):
    """A value that is no room that can be released."""

    def __init__(self, room):
        self.code = "NotReleasable"
        self.room = room


class NoPoint(SeatError):
    """A region without a point, or a value that is no point in it."""

    def __init__(self):
        self.code = "NoPoint"


class Unbounded(SeatError):
    """Weights for which no point of a region is greatest."""

    def __init__(self):
        self.code = "Unbounded"


class Missing(LookupError):
    """A value that was looked for and is not there."""


class UnknownRoom(Missing):
    """A value that is no room there."""

    def __init__(self, value):
        self.code = "UnknownRoom"
        self.value = value


class UnknownFamily(Missing):
    """A value that is no family of the book."""

    def __init__(self, value):
        self.code = "UnknownFamily"
        self.value = value


class UnknownDeal(Missing):
    """A value that is no number of such a deal."""

    def __init__(self, value):
        self.code = "UnknownDeal"
        self.value = value


class UnknownBook(Missing):
    """A value that is no book of the desk."""

    def __init__(self, value):
        self.code = "UnknownBook"
        self.value = value


class Finished(RuntimeError):
    """A step was asked for behind the last one."""

    def __init__(self):
        self.code = "Finished"


class NotEnded(RuntimeError):
    """The end was asked for too early."""

    def __init__(self):
        self.code = "NotEnded"


class NothingLeft(RuntimeError):
    """There is nothing that could be taken back."""

    def __init__(self):
        self.code = "NothingLeft"
