"""Reasons why a deal was not given."""

from nearseats.names import is_known

BETTER_DEAL = "family"
FULL_ROOM = "room "


def room_reason(room):
    """The reason that tells a room."""
    return f"{FULL_ROOM}{room}"


def reason_room(reason, rooms):
    """The room that any value tells as a reason, if it is one of these rooms; None otherwise."""
    if not isinstance(reason, str) or not reason.startswith(FULL_ROOM):
        return None
    room = reason[len(FULL_ROOM):]
    return room if is_known(room, rooms) else None


def is_reason(value, rooms):
    """Whether any value is a string that tells a better deal, or one of these rooms, as a reason."""
    return is_known(value, [BETTER_DEAL]) or reason_room(value, rooms) is not None


def why_wrong(occupancy, number, reason):
    """The word of a fault for any value as the reason for a missed deal; None if it is right."""
    if reason is None:
        return "missing"
    if is_known(reason, [BETTER_DEAL]):
        given = occupancy.given_to(number)
        return None if given is not None and given < number else "family"
    room = reason_room(reason, occupancy.rooms_of(number))
    if room is None:
        return "reason"
    if not occupancy.is_filled(room):
        return "full"
    return None if occupancy.is_behind_residents(room, occupancy.book.sent(number, room)) else "better"


def right_reason(occupancy, number):
    """The reason that is told for a missed deal: the first one that is right, or None."""
    found = [room_reason(room) for room in occupancy.rooms_of(number)]
    for reason in [BETTER_DEAL, *found]:
        if why_wrong(occupancy, number, reason) is None:
            return reason
    return None
