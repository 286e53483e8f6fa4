"""When the receivers are busy, and when they are not."""

from fewtuners.checks import LATEST_MINUTE, is_number
from fewtuners.errors import InvalidSpan
from fewtuners.plans import least_free, own_plan
from fewtuners.wishing import wished_windows


def check_span(begin, end):
    """Raise InvalidSpan for what does not go from a minute to a later one."""
    if not is_number(begin, 0, LATEST_MINUTE) or not is_number(end, begin + 1, LATEST_MINUTE):
        raise InvalidSpan("a span goes from a minute to a later one, from 0 to 1000660")


def pauses(windows, begin, end):
    """Return the list of all parts of a span, as tuples (from, to), in which no window is open."""
    found = []
    at = begin
    # Behind all windows comes an empty one at the end of the span, to close the last pause.
    for first, last in sorted(windows) + [(end, end)]:
        upto = min(first, end)
        if at < upto:
            found.append((at, upto))
        at = max(at, last)
    return found


def busy_minutes(book, listing, receivers):
    """Return a list with the minutes of all windows on each receiver by the recorder's own plan."""
    plan = own_plan(book, listing, receivers)
    windows = wished_windows(book, listing)
    minutes = [0] * receivers
    for name in plan:
        minutes[plan[name]] += windows[name][1] - windows[name][0]
    return minutes


def free_receiver(book, listing, receivers, begin, end):
    """Return the least receiver on which the own plan has no window that overlaps a span, or None."""
    plan = own_plan(book, listing, receivers)
    check_span(begin, end)
    least = least_free(wished_windows(book, listing), plan, (begin, end))
    return least if least < receivers else None


def longest_pause(book, listing, receivers, begin, end):
    """Return the longest part of a span in which the own plan has no open window, (from, minutes), or None."""
    plan = own_plan(book, listing, receivers)
    check_span(begin, end)
    windows = wished_windows(book, listing)
    found = pauses([windows[name] for name in plan], begin, end)
    # Of several pauses that are equally long, the first one is the least.
    ranked = [(first - last, first) for first, last in found]
    if not ranked:
        return None
    best = min(ranked)
    return (best[1], -best[0])
