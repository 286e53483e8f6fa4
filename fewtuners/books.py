"""Rules that tell which episodes are wished for, and books of them."""

from fewtuners.checks import GREATEST_EPISODE, is_number, is_word
from fewtuners.errors import InvalidBook, InvalidRule

MOST_RULES = 6
GREATEST_PRIORITY = 9
MOST_PADDING = 60


def wrong_part(show, first, last, priority, before, after):
    """Return the name of the first part of a rule that is out of range, or None."""
    # One after another, as what stands behind a wrong part may be of any kind.
    if not is_word(show):
        return "show"
    if not is_number(first, 1, GREATEST_EPISODE):
        return "first"
    if not is_number(last, first, GREATEST_EPISODE):
        return "last"
    if not is_number(priority, 1, GREATEST_PRIORITY):
        return "priority"
    if not is_number(before, 0, MOST_PADDING):
        return "before"
    if not is_number(after, 0, MOST_PADDING):
        return "after"
    return None


class Rule:
    """A wish for some episodes of a show, with a priority and minutes of padding."""

    def __init__(self, show, first, last, priority, before=0, after=0):
        part = wrong_part(show, first, last, priority, before, after)
        if part is not None:
            raise InvalidRule(part)
        self._show = show
        self._first = first
        self._last = last
        self._priority = priority
        self._before = before
        self._after = after

    @property
    def show(self):
        return self._show

    @property
    def first(self):
        return self._first

    @property
    def last(self):
        return self._last

    @property
    def priority(self):
        return self._priority

    @property
    def before(self):
        return self._before

    @property
    def after(self):
        return self._after

    def __eq__(self, other):
        return (
            isinstance(other, Rule)
            and self._show == other._show
            and self._first == other._first
            and self._last == other._last
            and self._priority == other._priority
            and self._before == other._before
            and self._after == other._after
        )


class Book:
    """Up to six rules, and the episodes that were seen already."""

    def __init__(self, rules, seen=()):
        if len(rules) > MOST_RULES:
            raise InvalidBook("a book has at most six rules")
        self._rules = tuple(rules)
        self._seen = tuple(seen)

    @property
    def rules(self):
        return self._rules

    @property
    def seen(self):
        return self._seen

    def rule_of(self, show, episode):
        """Return the first rule that wishes for an episode, None if there is none or it was seen."""
        if (show, episode) in self._seen:
            return None
        for rule in self._rules:
            if rule.show == show and rule.first <= episode <= rule.last:
                return rule
        return None

    def with_seen(self, episodes):
        """Return the book with more episodes behind those that were seen."""
        return Book(self._rules, self._seen + tuple(episodes))

    def __eq__(self, other):
        return isinstance(other, Book) and self._rules == other._rules and self._seen == other._seen
