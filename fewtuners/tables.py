"""What each receiver records, as a text."""

from fewtuners.phrases import listed
from fewtuners.plans import own_plan
from fewtuners.wishing import wished_windows


def table(book, listing, receivers):
    """Return a text with a line for each receiver: its number, and its recordings with their windows."""
    plan = own_plan(book, listing, receivers)
    windows = wished_windows(book, listing)
    lines = []
    for receiver in range(receivers):
        rows = sorted([(windows[name], name) for name in plan if plan[name] == receiver])
        recordings = listed([f"{name} {begin}-{end}" for (begin, end), name in rows])
        lines.append(f"{receiver}: {recordings}")
    return "\n".join(lines)
