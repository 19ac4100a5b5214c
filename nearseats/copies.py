"""Copies of any values, in which all lists and dicts are new."""

from nearseats.names import is_any_number


def copied(value):
    """A copy of any value."""
    if isinstance(value, list):
        return [copied(item) for item in value]
    if isinstance(value, tuple):
        return tuple([copied(item) for item in value])
    if isinstance(value, dict):
        return {key: copied(value[key]) for key in value}
    return value


def listed_copy(value):
    """A copy of any value, a list also for a tuple."""
    return copied(list(value) if isinstance(value, tuple) else value)


def ordered_copy(value):
    """A copy of any value; the keys of a dict ascend if all of them are numbers."""
    if not isinstance(value, dict) or not all([is_any_number(key) for key in value]):
        return copied(value)
    return {key: copied(value[key]) for key in sorted(value)}
