"""Which listings to try, to find out by which rules a log has come about."""

from fewtuners.checks import is_receivers
from fewtuners.errors import InvalidRows, NoFit
from fewtuners.plans import own_plan
from fewtuners.pools import book_of, possible_books

MOST_ROWS = 4


def check_rows(rows):
    """Raise InvalidRows for the first row with wrong receivers, or the first one too many."""
    for index, row in enumerate(rows):
        if index >= MOST_ROWS or not is_receivers(row[1]):
            raise InvalidRows(index)


def recorded_by(pool, indexes, rows):
    """Return the tuple of what the book of some rules of a pool records by each row, itself a tuple of names."""
    book = book_of(pool, indexes)
    return tuple([tuple(own_plan(book, listing, receivers)) for listing, receivers in rows])


def possible_outcomes(pool, most, log, rows):
    """Return the list of what each possible tuple of rules records by each row."""
    possible = possible_books(pool, most, log)
    check_rows(rows)
    if not possible:
        raise NoFit("no tuple of rules explains the log")
    return [recorded_by(pool, indexes, rows) for indexes in possible]


def parts_by(outcomes, row):
    """Return the list of the lists of those outcomes that are the same by one row."""
    parts = {}
    for outcome in outcomes:
        parts.setdefault(outcome[row], []).append(outcome)
    return list(parts.values())


def most_left(outcomes, row):
    """Return how many outcomes are left in the worst case, if one row is tried."""
    return max([len(part) for part in parts_by(outcomes, row)])


def most_tries(outcomes, rows):
    """Return how many of some rows, given by their indexes, have to be tried in the worst case."""
    found = []
    for row in rows:
        parts = parts_by(outcomes, row)
        # To try a row that can't tell any two apart would help with nothing.
        if len(parts) > 1:
            found.append(1 + max([most_tries(part, rows) for part in parts]))
    return min(found, default=0)


def next_listing(pool, most, log, rows):
    """Return the index of the first row by which the fewest tuples of rules are left in the worst case, or None."""
    outcomes = possible_outcomes(pool, most, log, rows)
    ranked = [(most_left(outcomes, row), row) for row in range(len(rows))]
    return min(ranked)[1] if ranked else None


def fewest_listings(pool, most, log, rows):
    """Return how many rows have to be tried in the worst case, until no row can tell more."""
    outcomes = possible_outcomes(pool, most, log, rows)
    return most_tries(outcomes, list(range(len(rows))))
