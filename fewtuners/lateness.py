"""A channel of which all sendings are late by the same number of minutes."""

from fewtuners.errors import NoDelay, UnknownChannel, UnknownName


def apart(sending, delays, minute):
    """Return two tuples: the delays by which a sending is on air at a minute, and those by which it is not."""
    on = [delay for delay in delays if sending.begin + delay <= minute < sending.end + delay]
    off = [delay for delay in delays if delay not in on]
    return (tuple(on), tuple(off))


def turning_minutes(sending, delays):
    """Return the list of the minutes at which a sending begins or ends by some delay."""
    return [edge + delay for edge in (sending.begin, sending.end) for delay in delays]


class Lateness:
    """Which delays of a channel are possible by what was told of it."""

    def __init__(self, listing, channel):
        self._sendings = {name: listing[name] for name in listing.names if listing[name].channel == channel}
        if not self._sendings:
            raise UnknownChannel("no sending is on this channel")
        least = min([sending.late for sending in self._sendings.values()])
        self._delays = tuple(range(least + 1))
        self._calls = ()

    @property
    def delays(self):
        return self._delays

    @property
    def calls(self):
        return list(self._calls)

    def on_air(self, name, minute):
        """Tell that a sending is on air at a minute; return how many delays are possible then."""
        left = apart(self._sending(name), self._delays, minute)[0]
        return self._accept(left, ("on_air", name, minute))

    def silent(self, name, minute):
        """Tell that a sending is not on air at a minute; return how many delays are possible then."""
        left = apart(self._sending(name), self._delays, minute)[1]
        return self._accept(left, ("silent", name, minute))

    def surely_on(self, name):
        """Return from and ahead of which minutes a sending is on air by all possible delays, or None."""
        sending = self._sending(name)
        begin = sending.begin + max(self._delays)
        end = sending.end + min(self._delays)
        return (begin, end) if begin < end else None

    def best_minute(self, name):
        """Return the first minute by which the fewest delays are left in the worst case, or None."""
        sending = self._sending(name)
        rows = []
        # How many delays are left only changes where the sending begins or ends by one of them.
        for minute in turning_minutes(sending, self._delays):
            on, off = apart(sending, self._delays, minute)
            rows.append((max(len(on), len(off)), minute))
        left, minute = min(rows)
        return minute if left < len(self._delays) else None

    def _sending(self, name):
        if name not in self._sendings:
            raise UnknownName("no sending of the channel has this name")
        return self._sendings[name]

    def _accept(self, left, call):
        """Keep the delays that are left by a call, unless there are none; return how many there are."""
        if not left:
            raise NoDelay("no delay would be possible")
        self._delays = left
        self._calls = self._calls + (call,)
        return len(left)
