"""What tells books apart, and by which rules of a pool a log can have come about."""

from fewtuners.books import Book
from fewtuners.checks import check_number, is_receivers
from fewtuners.errors import InvalidLog, InvalidPool, NoFit
from fewtuners.plans import own_plan
from fewtuners.subsets import subsets

MOST_IN_POOL = 8
MOST_IN_TUPLE = 3


def difference(book, other, listing, receivers):
    """Return the least tuple of names of sendings for which two books make other plans, or None."""
    for names in subsets(listing.names, len(listing)):
        some = listing.only(names)
        if own_plan(book, some, receivers) != own_plan(other, some, receivers):
            return names
    return None


def check_log(pool, most, log):
    """Raise the error of a pool, of the number of rules, or of the first wrong tuple of a log."""
    if len(pool) > MOST_IN_POOL:
        raise InvalidPool("a pool has at most eight rules")
    check_number(most, 0, MOST_IN_TUPLE)
    for index, row in enumerate(log):
        if not is_receivers(row[1]):
            raise InvalidLog(index)


def book_of(pool, indexes):
    """Return the book of some rules of a pool, nothing being seen."""
    return Book(tuple([pool[index] for index in indexes]))


def explains(book, log):
    """Return whether by a book just what a log tells is recorded."""
    return all([tuple(own_plan(book, listing, receivers)) == names for listing, receivers, names in log])


def possible_books(pool, most, log):
    """Return the list of all tuples of indexes of at most so many rules that explain a log."""
    check_log(pool, most, log)
    tried = subsets(list(range(len(pool))), most)
    return [indexes for indexes in tried if explains(book_of(pool, indexes), log)]


def judged(pool, most, log, index):
    """Return "surely", "perhaps" or "never", as a rule is in all, some or no possible tuples."""
    possible = possible_books(pool, most, log)
    check_number(index, 0, len(pool) - 1)
    if not possible:
        raise NoFit("no tuple of rules explains the log")
    having = [indexes for indexes in possible if index in indexes]
    if having == possible:
        return "surely"
    return "perhaps" if having else "never"
