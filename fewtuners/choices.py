"""The best choice there could be, and how many receivers are needed."""

from fewtuners.checks import MOST_RECEIVERS, check_receivers
from fewtuners.plans import ascending, least_free, lost, no_episode_twice
from fewtuners.subsets import subsets
from fewtuners.wishing import rule_for, window, wished_windows, wishes


def begin_then_name(windows, names):
    """Return the list of names by the beginnings of their windows, then by names."""
    return [row[1] for row in sorted([(windows[name][0], name) for name in names])]


def open_at(windows, names, minute):
    """Return the list of those names whose windows are open at a minute, in their order."""
    return [name for name in names if windows[name][0] <= minute < windows[name][1]]


def most_at_once(windows, names):
    """Return how many windows of these names are open at the same minute, at the most."""
    # The number of open windows only grows where one of them begins.
    return max([len(open_at(windows, names, windows[name][0])) for name in names], default=0)


def without_doubles(listing, names):
    """Return the list of all ascending tuples of ascending names in which no episode is there twice."""
    return [chosen for chosen in subsets(names, len(names)) if no_episode_twice(listing, chosen)]


def choices_among(listing, windows, receivers):
    """Return the list of all choices of the sendings that have a window."""
    tried = without_doubles(listing, sorted(windows))
    return [chosen for chosen in tried if most_at_once(windows, chosen) <= receivers]


def all_choices(book, listing, receivers):
    """Return the list of all choices of the sendings that are wished for."""
    check_receivers(receivers)
    return choices_among(listing, wished_windows(book, listing), receivers)


def worth(book, listing, names):
    """Return the sum of the priorities of some sendings' rules."""
    return sum([rule_for(book, listing[name]).priority for name in names])


def best_choice(book, listing, receivers):
    """Return a tuple of the greatest sum of priorities, and the choice that has it."""
    choices = all_choices(book, listing, receivers)
    best = min([(-worth(book, listing, chosen), -len(chosen), chosen) for chosen in choices])
    return (-best[0], best[2])


def windows_of(book, listing, names):
    """Return a dict from ascending names to their windows (UnknownName, NotWished)."""
    # UnknownName goes ahead for all names, as it does for one.
    some = listing.only(names)
    return {name: window(book, some, name) for name in some.names}


def seated(book, listing, names):
    """Return the plan of a choice, with as many receivers as are needed."""
    windows = windows_of(book, listing, names)
    plan = {}
    for name in begin_then_name(windows, windows):
        plan[name] = least_free(windows, plan, windows[name])
    return ascending(plan)


def fewest_own(book, listing):
    """Return the fewest receivers by which the recorder's own plan loses nothing."""
    # There is one: with as many receivers as a listing can have sendings, one is always free.
    return min([many for many in range(1, MOST_RECEIVERS + 1) if not lost(book, listing, many)])


def fewest_best(book, listing):
    """Return the fewest receivers by which some choice has a sending of each wish."""
    windows = wished_windows(book, listing)
    many = len(wishes(book, listing))
    complete = [chosen for chosen in without_doubles(listing, sorted(windows)) if len(chosen) == many]
    return max(1, min([most_at_once(windows, chosen) for chosen in complete]))


def busiest(book, listing, names):
    """Return the first minute at which the most windows are open, and the tuple of these."""
    windows = windows_of(book, listing, names)
    found = (0, ())
    for name in begin_then_name(windows, windows):
        minute = windows[name][0]
        crowd = open_at(windows, windows, minute)
        if len(crowd) > len(found[1]):
            found = (minute, tuple(crowd))
    return found
