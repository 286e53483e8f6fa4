"""The best choice that keeps the most of what was chosen before."""

from fewtuners.choices import all_choices, worth


def steady_choice(book, listing, receivers, names):
    """Return a tuple of how many of some names a choice has, its sum of priorities, and the choice."""
    rows = []
    for chosen in all_choices(book, listing, receivers):
        kept = [name for name in chosen if name in names]
        rows.append((-len(kept), -worth(book, listing, chosen), -len(chosen), chosen))
    best = min(rows)
    return (-best[0], -best[1], best[3])
