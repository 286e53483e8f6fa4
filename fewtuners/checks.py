"""What words and numbers may be."""

GREATEST_EPISODE = 999


def is_word(text):
    """Return whether a text is one to eight letters a to z."""
    return 1 <= len(text) <= 8 and all(["a" <= letter <= "z" for letter in text])


def is_number(value, least, greatest):
    """Return whether a value is an integer in a range, both of whose ends belong to it."""
    # True and False count as integers in Python, but not in the document.
    return isinstance(value, int) and not isinstance(value, bool) and least <= value <= greatest


def first_wrong(checked):
    """Return the first part of tuples (part, whether it is right) that is not right, or None."""
    for part, right in checked:
        if not right:
            return part
    return None
