"""Sendings and listings of them."""

from fewtuners.checks import GREATEST_EPISODE, is_number, is_word
from fewtuners.errors import InvalidListing, InvalidSending, UnknownName

MOST_SENDINGS = 10
LATEST_BEGIN = 10 ** 6
LATEST_END = 10 ** 6 + 600
MOST_LATE = 60


def wrong_part(channel, show, episode, begin, end, late):
    """Return the name of the first part of a sending that is out of range, or None."""
    # One after another, as what stands behind a wrong part may be of any kind.
    if not is_word(channel):
        return "channel"
    if not is_word(show):
        return "show"
    if not is_number(episode, 1, GREATEST_EPISODE):
        return "episode"
    if not is_number(begin, 0, LATEST_BEGIN):
        return "begin"
    if not is_number(end, begin + 1, LATEST_END):
        return "end"
    if not is_number(late, 0, MOST_LATE):
        return "late"
    return None


class Sending:
    """An episode of a show, sent on a channel from one minute to another one."""

    def __init__(self, channel, show, episode, begin, end, late=0):
        part = wrong_part(channel, show, episode, begin, end, late)
        if part is not None:
            raise InvalidSending(part)
        self._channel = channel
        self._show = show
        self._episode = episode
        self._begin = begin
        self._end = end
        self._late = late

    @property
    def channel(self):
        return self._channel

    @property
    def show(self):
        return self._show

    @property
    def episode(self):
        return self._episode

    @property
    def begin(self):
        return self._begin

    @property
    def end(self):
        return self._end

    @property
    def late(self):
        return self._late

    def __eq__(self, other):
        return (
            isinstance(other, Sending)
            and self._channel == other._channel
            and self._show == other._show
            and self._episode == other._episode
            and self._begin == other._begin
            and self._end == other._end
            and self._late == other._late
        )


class Listing:
    """What is sent: up to ten sendings, each with a name."""

    def __init__(self, sendings):
        # Apart from the words, as what is no word may be of a kind that cannot be put in order with them.
        wrong = sorted([name for name in sendings if not is_word(name)])
        if wrong:
            raise InvalidListing(wrong[0])
        names = sorted(sendings)
        if len(names) > MOST_SENDINGS:
            raise InvalidListing(names[MOST_SENDINGS])
        self._sendings = {name: sendings[name] for name in names}

    @property
    def names(self):
        return tuple(self._sendings)

    @property
    def sendings(self):
        return dict(self._sendings)

    def with_sending(self, name, sending):
        """Return the listing with one sending more, or with another one of this name."""
        return Listing({**self._sendings, name: sending})

    def only(self, names):
        """Return the listing with just the sendings of these names."""
        return Listing({name: self[name] for name in names})

    def __getitem__(self, name):
        if name not in self._sendings:
            raise UnknownName("no sending has this name")
        return self._sendings[name]

    def __contains__(self, name):
        return name in self._sendings

    def __len__(self):
        return len(self._sendings)

    def __eq__(self, other):
        return isinstance(other, Listing) and self._sendings == other._sendings

    def __iter__(self):
        # Without this, Python would iterate by asking for listing[0], listing[1] and so on.
        raise TypeError("a listing cannot be iterated over")
