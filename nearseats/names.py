"""Names, numbers and members: what they are, and how they are written."""

LETTERS = "ABCDEFGHIJKLMNOPQRSTUVWXYZabcdefghijklmnopqrstuvwxyz"
DIGITS = "0123456789"
LONGEST_NAME = 12
LONGEST_NUMBER = 9


def is_name(value):
    """Whether any value is a name."""
    if not isinstance(value, str) or not 1 <= len(value) <= LONGEST_NAME:
        return False
    return value[0] in LETTERS and all([sign in LETTERS or sign in DIGITS for sign in value])


def is_any_number(value):
    """Whether any value is a number, of any size and sign."""
    # True and False are integers for Python, but no numbers here.
    return isinstance(value, int) and not isinstance(value, bool)


def is_number(value, least, most):
    """Whether any value is a number from least to most; most may be None, for no bound."""
    if not is_any_number(value):
        return False
    return value >= least and (most is None or value <= most)


def is_member(value):
    """Whether any value is a string that is written as a member."""
    return member_parts(value) is not None


def member_name(family, k):
    """The name of member k of a family."""
    return f"{family}.{k}"


def member_parts(value):
    """The name of the family and the number that a member is written with; None for any other value."""
    if not isinstance(value, str):
        return None
    family, _, digits = value.partition(".")
    k = written_number(digits)
    if not is_name(family) or k is None or k == 0:
        return None
    return (family, k)


def written_number(word):
    """The number that a string writes; None for any other value."""
    if not isinstance(word, str) or not 1 <= len(word) <= LONGEST_NUMBER:
        return None
    if not all([sign in DIGITS for sign in word]):
        return None
    if word[0] == "0" and word != "0":
        return None
    return int(word)


def is_known(value, strings):
    """Whether any value is among some strings, which are a list or the keys of a dict."""
    # Other values may be lists or dicts, which cannot be looked up among keys.
    return isinstance(value, str) and value in strings
