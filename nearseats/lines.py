"""The lines of texts: how a text is gone through, and how single lines are read and written."""

from nearseats.checks import is_deal, is_order
from nearseats.names import is_name, written_number


def text_fault(text, title, reader):
    """The line and the word for the first fault of any value as a text, or None.

    The first line is the title. The reader takes each further line by take(line), which tells a word or None.
    It has the attribute closed, which is True behind the last line that a text needs.
    """
    if not isinstance(text, str):
        return (0, "form")
    lines = text.split("\n")
    last = len(lines) - 1
    for at in range(last):
        if at == 0:
            why = None if lines[at] == title else "form"
        else:
            why = reader.take(lines[at])
        if why is not None:
            return (at, why)
    # What stands behind the last line feed is a line that lacks its own.
    if lines[last] != "":
        return (last, "form")
    return None if reader.closed else (last, "missing")


def seats_line(line, kind):
    """The name and the number that a line of this kind tells of a room; None for any other form."""
    words = line.split(" ")
    if len(words) != 3 or words[0] != kind or not is_name(words[1]):
        return None
    seats = written_number(words[2])
    return None if seats is None else (words[1], seats)


def family_head(words, sign):
    """The name and the size of a line with `family` that has this sign behind them; None for any other form."""
    if len(words) < 4 or words[0] != "family" or words[3] != sign or not is_name(words[1]):
        return None
    size = written_number(words[2])
    return None if size is None or size == 0 else (words[1], size)


def family_line(line):
    """The triple that a line with `family` and deals tells; None for any other form."""
    words = line.split(" ")
    head = family_head(words, ":")
    if head is None:
        return None
    name, size = head
    deals = deals_of(words[4:])
    if not all([is_deal(deal, size) for deal in deals]):
        return None
    return (name, size, deals)


def deals_of(words):
    """The list of the deals that are written with these words; their items may be wrong ones."""
    if not words:
        return []
    return [tuple(part.split(" ")) for part in " ".join(words).split(" | ")]


def headed_line(line, kind):
    """The word behind the kind, and the words behind the colon; None if a line has not these parts."""
    words = line.split(" ")
    if len(words) < 3 or words[0] != kind or words[2] != ":":
        return None
    return (words[1], words[3:])


def order_line(line):
    """The room and the members that a line with `order` tells; None for any other form."""
    told = headed_line(line, "order")
    if told is None or not is_name(told[0]) or not is_order(told[1]):
        return None
    return told


def with_words(head, words):
    """A line that ends with these words, or with its head if there are none."""
    return " ".join([head, *words])


def book_lines(rooms, families, orders):
    """The lines of the text of a book with these parts."""
    lines = ["book"]
    for name, seats in rooms:
        lines.append(f"room {name} {seats}")
    for name, size, deals in families:
        written = " | ".join([" ".join(deal) for deal in deals])
        lines.append(with_words(f"family {name} {size} :", [written] if deals else []))
    for (name, _), members in zip(rooms, orders):
        lines.append(with_words(f"order {name} :", members))
    lines.append("end")
    return lines


def joined_lines(lines):
    """The text that has these lines, with a line feed behind each."""
    return "".join([f"{line}\n" for line in lines])
