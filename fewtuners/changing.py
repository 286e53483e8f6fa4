"""Listings that change, and what this does to the recorder's own plan."""

from fewtuners.plans import episodes_of, own_plan


def change_of(one, other, name):
    """Return the word for what happens to a name from one listing to another one, or None."""
    if name not in other:
        return "gone"
    if name not in one:
        return "new"
    return None if one[name] == other[name] else "moved"


def changes(one, other):
    """Return the list of tuples (word, name) of all that changes from one listing to another one."""
    names = sorted(set(one.names + other.names))
    found = [(change_of(one, other, name), name) for name in names]
    return [row for row in found if row[0] is not None]


def shifted(book, one, other, receivers):
    """Return two lists: the episodes that only the other listing's plan has, and that only the first one's has."""
    earlier = episodes_of(one, own_plan(book, one, receivers))
    later = episodes_of(other, own_plan(book, other, receivers))
    gained = [episode for episode in later if episode not in earlier]
    missed = [episode for episode in earlier if episode not in later]
    return (sorted(gained), sorted(missed))
