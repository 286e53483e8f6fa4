"""What a small disk keeps, and how long it takes until all is recorded."""

from fewtuners.checks import check_number
from fewtuners.choices import begin_then_name
from fewtuners.plans import episodes_of, own_plan
from fewtuners.wishing import sendings_of, wished_windows

MOST_MINUTES = 10 ** 6
MOST_NEEDED = 10 ** 5


def recorded_minutes(book, listing, receivers):
    """Return a dict from the recordings, in the order in which they come to the disk, to their minutes."""
    plan = own_plan(book, listing, receivers)
    windows = wished_windows(book, listing)
    return {name: windows[name][1] - windows[name][0] for name in begin_then_name(windows, plan)}


def minutes_of(sizes, names):
    """Return how many minutes some recordings take."""
    return sum([sizes[name] for name in names])


def among(names, others):
    """Return the list of those names that are among others, too, in their order."""
    return [name for name in names if name in others]


def on_disk(book, listing, receivers, minutes, protected):
    """Return a tuple of the lists of what is kept, deleted and refused by a disk of so many minutes."""
    sizes = recorded_minutes(book, listing, receivers)
    check_number(minutes, 1, MOST_MINUTES)
    kept, deleted, refused = [], [], []
    for name in sizes:
        if sizes[name] > minutes - minutes_of(sizes, among(kept, protected)):
            refused.append(name)
        else:
            while minutes_of(sizes, kept) + sizes[name] > minutes:
                earliest = [other for other in kept if other not in protected][0]
                kept.remove(earliest)
                deleted.append(earliest)
            kept.append(name)
    return (kept, deleted, refused)


def least_disk(book, listing, receivers, protected):
    """Return the fewest minutes of a disk by which nothing is refused, None if more than 10 ** 5 are needed."""
    sizes = recorded_minutes(book, listing, receivers)
    names = list(sizes)
    # As long as nothing is refused, all protected recordings stay on the disk, and nothing else has to.
    needed = [sizes[name] + minutes_of(sizes, among(names[:at], protected)) for at, name in enumerate(names)]
    least = max([1, *needed])
    return least if least <= MOST_NEEDED else None


def rounds(book, listing, receivers):
    """Return the list of the recorder's own plans for the same listing, until it records nothing any more."""
    found = []
    plan = own_plan(book, listing, receivers)
    while plan:
        found.append(plan)
        book = book.with_seen(tuple(episodes_of(listing, plan)))
        plan = own_plan(book, listing, receivers)
    return found


def round_of(book, listing, receivers, episode):
    """Return the index of the round in which an episode is recorded."""
    plans = rounds(book, listing, receivers)
    names = sendings_of(book, listing, episode)
    # Each round records the first wish at least, so each wish has one.
    return [at for at, plan in enumerate(plans) if among(names, plan)][0]
