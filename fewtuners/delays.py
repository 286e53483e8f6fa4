"""What is recorded whole, although sendings may be late."""

from fewtuners.books import MOST_PADDING, Book, Rule
from fewtuners.checks import is_number
from fewtuners.errors import InvalidDelay
from fewtuners.plans import lost, own_plan
from fewtuners.wishing import window


def check_delays(listing, delays):
    """Raise InvalidDelay for the least name that has no sending or a delay that it cannot have."""
    for name in sorted(delays):
        if name not in listing or not is_number(delays[name], 0, listing[name].late):
            raise InvalidDelay(name)


def in_window(book, listing, name, delay):
    """Return whether a sending that is late by so many minutes lies in its window."""
    begin, end = window(book, listing, name)
    return begin <= listing[name].begin + delay and listing[name].end + delay <= end


def whole(book, listing, plan, delays):
    """Return the ascending list of a plan's sendings that lie in their windows, late as told."""
    check_delays(listing, delays)
    return [name for name in sorted(plan) if in_window(book, listing, name, delays.get(name, 0))]


def surely_whole(book, listing, plan):
    """Return the ascending list of a plan's sendings that lie in their windows whatever the delays are."""
    # A window begins with its sending at the latest, so that the greatest delay is the worst one.
    return whole(book, listing, plan, {name: listing[name].late for name in plan})


def with_more(book, minutes):
    """Return the book with so many more minutes of padding behind, at most 60 for each rule."""
    rules = []
    for rule in book.rules:
        after = min(MOST_PADDING, rule.after + minutes)
        rules.append(Rule(rule.show, rule.first, rule.last, rule.priority, rule.before, after))
    return Book(tuple(rules), book.seen)


def all_surely_whole(book, listing, receivers):
    """Return whether all sendings of the recorder's own plan are surely whole."""
    plan = own_plan(book, listing, receivers)
    return surely_whole(book, listing, plan) == list(plan)


def least_more(book, listing, receivers):
    """Return the fewest minutes of padding that make all surely whole and lose no more, or None."""
    most = len(lost(book, listing, receivers))
    for minutes in range(MOST_PADDING + 1):
        wider = with_more(book, minutes)
        if all_surely_whole(wider, listing, receivers) and len(lost(wider, listing, receivers)) <= most:
            return minutes
    return None
