"""Sendings, rules and listings that several tests use."""

from fewtuners.books import Book, Rule
from fewtuners.listings import Listing, Sending

# Values that are neither words nor integers, of kinds that cannot be compared with texts or integers.
ODD_VALUES = (None, True, False, 1.0, b"news", ["a"], ("a", "b"), {"a": 1}, object())


def sending(**parts):
    """Return a sending with some parts as told, and all others in range."""
    return Sending(**{"channel": "one", "show": "news", "episode": 1, "begin": 0, "end": 30, **parts})


def rule(**parts):
    """Return a rule with some parts as told, and all others in range."""
    return Rule(**{"show": "news", "first": 1, "last": 9, "priority": 5, **parts})


def listing_of(**sendings):
    """Return a listing of named tuples (show, episode, begin, end)."""
    return Listing({name: Sending("one", *parts) for name, parts in sendings.items()})


def letters(many):
    """Return a dict of so many sendings with the names a, b, c and so on."""
    return {"abcdefghijklmnop"[at]: sending(begin=at) for at in range(many)}


def document_listing():
    return Listing({
        "ant": Sending("one", "news", 1, 0, 30, 3),
        "bee": Sending("two", "quiz", 1, 25, 50, 1),
        "cat": Sending("one", "news", 1, 100, 130),
    })


def document_book():
    return Book((Rule("news", 1, 9, 5, 0, 2), Rule("quiz", 1, 1, 3)))
