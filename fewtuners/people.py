"""Wishes of several people, each with a book."""

from fewtuners.checks import check_receivers
from fewtuners.choices import choices_among
from fewtuners.errors import InvalidBooks
from fewtuners.wishing import rule_for, window

MOST_BOOKS = 4


def check_books(books):
    """Raise InvalidBooks for no books, or for too many."""
    if not books:
        raise InvalidBooks(0)
    if len(books) > MOST_BOOKS:
        raise InvalidBooks(MOST_BOOKS)


def wishers(books, listing, name):
    """Return the ascending list of the indexes of the books that wish for a sending."""
    check_books(books)
    sending = listing[name]
    return [index for index, book in enumerate(books) if rule_for(book, sending) is not None]


def joint_windows(books, listing):
    """Return a dict from ascending names to windows that hold all windows of the books that wish for them."""
    found = {}
    for name in listing.names:
        windows = [window(books[index], listing, name) for index in wishers(books, listing, name)]
        if windows:
            found[name] = (min([row[0] for row in windows]), max([row[1] for row in windows]))
    return found


def served_by(books, listing, names):
    """Return the list of the numbers of sendings with which each book is served by a choice."""
    wishing = [wishers(books, listing, name) for name in names]
    return [len([row for row in wishing if index in row]) for index in range(len(books))]


def fair_choice(books, listing, receivers):
    """Return a tuple of how each book is served, and the joint choice that serves those the best who get least."""
    check_books(books)
    check_receivers(receivers)
    rows = []
    for chosen in choices_among(listing, joint_windows(books, listing), receivers):
        served = served_by(books, listing, chosen)
        rows.append(([-number for number in sorted(served)], len(chosen), chosen))
    best = min(rows)[2]
    return (tuple(served_by(books, listing, best)), best)
