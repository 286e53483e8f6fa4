"""Sendings, rules and listings that several tests use."""

import random

from fewtuners.books import Book, Rule
from fewtuners.listings import Listing, Sending

# Values that are neither words nor integers, of kinds that cannot be compared with texts or integers.
ODD_VALUES = (None, True, False, 1.0, b"news", ["a"], ("a", "b"), {"a": 1}, object())

# Numbers of receivers that no recorder has.
WRONG_RECEIVERS = (0, -1, 11, 1000, True, False)


def sending(**parts):
    """Return a sending with some parts as told, and all others in range."""
    return Sending(**{"channel": "one", "show": "news", "episode": 1, "begin": 0, "end": 30, **parts})


def rule(**parts):
    """Return a rule with some parts as told, and all others in range."""
    return Rule(**{"show": "news", "first": 1, "last": 9, "priority": 5, **parts})


def listing_of(**sendings):
    """Return a listing of named tuples (show, episode, begin, end)."""
    return Listing({name: Sending("one", *parts) for name, parts in sendings.items()})


def letters(many):
    """Return a dict of so many sendings with the names a, b, c and so on."""
    return {"abcdefghijklmnop"[at]: sending(begin=at) for at in range(many)}


def document_listing():
    return Listing({
        "ant": Sending("one", "news", 1, 0, 30, 3),
        "bee": Sending("two", "quiz", 1, 25, 50, 1),
        "cat": Sending("one", "news", 1, 100, 130),
    })


def document_book():
    return Book((Rule("news", 1, 9, 5, 0, 2), Rule("quiz", 1, 1, 3)))


def news_listing():
    return Listing({
        "a": Sending("one", "news", 1, 10, 20, 5),
        "b": Sending("one", "quiz", 1, 15, 30, 3),
        "c": Sending("two", "news", 1, 40, 50),
    })


def news_book():
    return Book((Rule("news", 1, 9, 2), Rule("quiz", 1, 9, 3)))


def random_listing(chance, most=10):
    """Return a listing in which many sendings overlap, by a random.Random."""
    sendings = {}
    for name in chance.sample(["a", "aa", "ab", "b", "ba", "c", "d", "e", "f", "g", "h", "z"], chance.randint(0, most)):
        begin = chance.randint(0, 40)
        end = begin + chance.choice((1, 5, 10, 10, 20))
        show = chance.choice(("news", "quiz", "film"))
        sendings[name] = Sending("one", show, chance.randint(1, 3), begin, end, chance.choice((0, 1, 5, 60)))
    return Listing(sendings)


def random_book(chance):
    """Return a book with few priorities and some padding, by a random.Random."""
    rules = []
    for _ in range(chance.randint(0, 6)):
        first = chance.randint(1, 3)
        padding = [chance.choice((0, 0, 1, 5, 60)) for _ in range(2)]
        show = chance.choice(("news", "quiz", "film"))
        rules.append(Rule(show, first, chance.randint(first, 3), chance.randint(1, 3), *padding))
    seen = [(chance.choice(("news", "quiz")), chance.randint(1, 3)) for _ in range(chance.choice((0, 0, 1, 2)))]
    return Book(tuple(rules), tuple(seen))


def random_cases(many, most=10):
    """Return so many tuples (book, listing, receivers), the same ones for each call."""
    chance = random.Random(many)
    return [(random_book(chance), random_listing(chance, most), chance.randint(1, 4)) for _ in range(many)]
