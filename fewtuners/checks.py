"""What words and numbers may be."""

GREATEST_EPISODE = 999


def is_word(value):
    """Return whether a value is a text of one to eight letters a to z."""
    return isinstance(value, str) and 1 <= len(value) <= 8 and all(["a" <= letter <= "z" for letter in value])


def is_number(value, least, greatest):
    """Return whether a value is an integer in a range, both of whose ends belong to it."""
    # True and False count as integers in Python, but not in the document.
    return isinstance(value, int) and not isinstance(value, bool) and least <= value <= greatest
