"""What is wished for, and when a receiver is needed for it."""

from fewtuners.errors import NotWished, UnknownEpisode


def episode_of(sending):
    """Return the episode of a sending as a tuple (show, number)."""
    return (sending.show, sending.episode)


def rule_for(book, sending):
    """Return the rule that wishes for a sending, or None."""
    return book.rule_of(sending.show, sending.episode)


def wished_names(book, listing):
    """Return the ascending list of the names of all sendings that are wished for."""
    return [name for name in listing.names if rule_for(book, listing[name]) is not None]


def wishes(book, listing):
    """Return the list of all episodes that are wished for and sent, the most urgent one first."""
    rows = []
    for name in wished_names(book, listing):
        sending = listing[name]
        rows.append((-rule_for(book, sending).priority, sending.begin, episode_of(sending)))
    found = []
    # The first row of an episode is that of its first sending, which alone gives it its place.
    for row in sorted(rows):
        if row[2] not in found:
            found.append(row[2])
    return found


def sendings_of(book, listing, episode):
    """Return the list of the names of a wished episode's sendings, by beginnings, then by names."""
    rows = []
    for name in wished_names(book, listing):
        if episode_of(listing[name]) == episode:
            rows.append((listing[name].begin, name))
    if not rows:
        raise UnknownEpisode("the episode is no wish")
    return [row[1] for row in sorted(rows)]


def window(book, listing, name):
    """Return the window of a sending, with its padding, as a tuple (from, to)."""
    sending = listing[name]
    rule = rule_for(book, sending)
    if rule is None:
        raise NotWished("no rule wishes for this sending")
    return (max(0, sending.begin - rule.before), sending.end + rule.after)


def wished_windows(book, listing):
    """Return a dict from the ascending names of all sendings that are wished for to their windows."""
    return {name: window(book, listing, name) for name in wished_names(book, listing)}


def windows_overlap(one, other):
    """Return whether each of two windows begins ahead of the other one's end."""
    return one[0] < other[1] and other[0] < one[1]


def overlaps(book, listing, name):
    """Return the ascending list of all other wished sendings whose windows overlap this one's."""
    own = window(book, listing, name)
    windows = wished_windows(book, listing)
    return [other for other in windows if other != name and windows_overlap(own, windows[other])]
