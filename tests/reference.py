"""What the document says, told minute by minute and by trying all there is, to compare the program with."""

import itertools


def windows(book, listing):
    """Return a dict from the names of what is wished for to the sets of the minutes of their windows."""
    found = {}
    for name in listing.names:
        rule = book.rule_of(listing[name].show, listing[name].episode)
        if rule is not None:
            found[name] = set(range(max(0, listing[name].begin - rule.before), listing[name].end + rule.after))
    return found


def episode(listing, name):
    return (listing[name].show, listing[name].episode)


def priority(book, listing, name):
    return book.rule_of(*episode(listing, name)).priority


def wishes(book, listing):
    """Return the wishes, the most urgent one first."""
    firsts = {}
    for name in windows(book, listing):
        rank = (-priority(book, listing, name), listing[name].begin)
        wish = episode(listing, name)
        firsts[wish] = min(rank, firsts.get(wish, rank))
    return sorted(firsts, key=lambda wish: (firsts[wish], wish))


def taken_up(book, listing, receivers):
    """Return the list of tuples (name, receiver) of the recorder's own plan, as it comes to them."""
    minutes = windows(book, listing)
    busy = [set() for _ in range(receivers)]
    taken = []
    for wish in wishes(book, listing):
        sendings = sorted((listing[name].begin, name) for name in minutes if episode(listing, name) == wish)
        ways = [(name, at) for _, name in sendings for at in range(receivers) if not busy[at] & minutes[name]]
        if ways:
            name, at = ways[0]
            busy[at] |= minutes[name]
            taken.append((name, at))
    return taken


def subsets(names):
    """Return all ascending tuples of some names, shorter ones first, then in tuple order."""
    return [tuple(row) for many in range(len(names) + 1) for row in itertools.combinations(sorted(names), many)]


def is_choice(minutes, listing, receivers, names):
    """Return whether no episode is there twice and no minute has too many windows."""
    if len({episode(listing, name) for name in names}) < len(names):
        return False
    every = [minute for name in names for minute in minutes[name]]
    return all(every.count(minute) <= receivers for minute in set(every))


def choices(book, listing, receivers):
    minutes = windows(book, listing)
    return [names for names in subsets(minutes) if is_choice(minutes, listing, receivers, names)]
