"""What words and numbers may be."""

from fewtuners.errors import InvalidNumber

GREATEST_EPISODE = 999
MOST_RECEIVERS = 10
# The end of the latest sending, and the most padding behind it.
LATEST_MINUTE = 10 ** 6 + 660


def is_word(value):
    """Return whether a value is a text of one to eight letters a to z."""
    return isinstance(value, str) and 1 <= len(value) <= 8 and all(["a" <= letter <= "z" for letter in value])


def is_number(value, least, greatest):
    """Return whether a value is an integer in a range, both of whose ends belong to it."""
    # True and False count as integers in Python, but not in the document.
    return isinstance(value, int) and not isinstance(value, bool) and least <= value <= greatest


def is_receivers(value):
    """Return whether a value is a number of receivers that a recorder can have."""
    return is_number(value, 1, MOST_RECEIVERS)


def check_receivers(value):
    """Raise InvalidNumber for what is no number of receivers."""
    if not is_receivers(value):
        raise InvalidNumber("a recorder has 1 to 10 receivers")


def check_number(value, least, greatest):
    """Raise InvalidNumber for what is no integer in a range, both of whose ends belong to it."""
    if not is_number(value, least, greatest):
        raise InvalidNumber(f"this number goes from {least} to {greatest}")
