"""What the recorder takes up by itself, what is lost, and what was in its way."""

from fewtuners.checks import check_receivers, is_number
from fewtuners.errors import UnknownEpisode
from fewtuners.wishing import episode_of, sendings_of, windows_overlap, wished_windows, wishes


def ascending(plan):
    """Return a plan with its names in ascending order."""
    return {name: plan[name] for name in sorted(plan)}


def on_receiver(windows, plan, receiver, span):
    """Return the ascending list of all recordings on a receiver whose windows overlap a tuple (from, to)."""
    recordings = [other for other in sorted(plan) if plan[other] == receiver]
    return [other for other in recordings if windows_overlap(windows[other], span)]


def least_free(windows, plan, span):
    """Return the least receiver that is free in a whole tuple (from, to), however great it is."""
    receiver = 0
    while on_receiver(windows, plan, receiver, span):
        receiver = receiver + 1
    return receiver


def taken_up(book, listing, receivers):
    """Return the recorder's own plan in the order in which it takes up its recordings."""
    windows = wished_windows(book, listing)
    plan = {}
    for episode in wishes(book, listing):
        for name in sendings_of(book, listing, episode):
            receiver = least_free(windows, plan, windows[name])
            if receiver < receivers:
                plan[name] = receiver
                break
    return plan


def own_plan(book, listing, receivers):
    """Return the recorder's own plan, a dict from ascending names to the numbers of their receivers."""
    check_receivers(receivers)
    return ascending(taken_up(book, listing, receivers))


def no_episode_twice(listing, names):
    """Return whether all sendings of these names are of different episodes."""
    return len({episode_of(listing[name]) for name in names}) == len(names)


def no_receiver_twice(windows, plan):
    """Return whether no two windows on the same receiver overlap."""
    # A window overlaps itself, so each sending finds just itself on its own receiver.
    return all([on_receiver(windows, plan, plan[name], windows[name]) == [name] for name in plan])


def is_plan(book, listing, receivers, plan):
    """Return whether a dict from texts to integers is a plan, in whatever order."""
    check_receivers(receivers)
    windows = wished_windows(book, listing)
    if not all([name in windows and is_number(plan[name], 0, receivers - 1) for name in plan]):
        return False
    return no_episode_twice(listing, plan) and no_receiver_twice(windows, plan)


def episodes_of(listing, plan):
    """Return the list of the episodes of all recordings of a plan, in its order."""
    return [episode_of(listing[name]) for name in plan]


def lost(book, listing, receivers):
    """Return the list of all wishes of which the recorder's own plan has no sending."""
    recorded = episodes_of(listing, own_plan(book, listing, receivers))
    return [episode for episode in wishes(book, listing) if episode not in recorded]


def plan_before(book, listing, receivers, episode):
    """Return what the recorder has taken up when it comes to a wish."""
    wished = wishes(book, listing)
    earlier = wished[:wished.index(episode)]
    plan = own_plan(book, listing, receivers)
    return {name: plan[name] for name in plan if episode_of(listing[name]) in earlier}


def in_the_way(book, listing, receivers, episode):
    """Return, for each sending of a lost episode, what was in its way on each receiver."""
    if episode not in lost(book, listing, receivers):
        raise UnknownEpisode("the episode is not lost")
    windows = wished_windows(book, listing)
    plan = plan_before(book, listing, receivers, episode)
    found = {}
    for name in sendings_of(book, listing, episode):
        found[name] = [on_receiver(windows, plan, receiver, windows[name]) for receiver in range(receivers)]
    return found
