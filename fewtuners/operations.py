"""What the operations of a recorder do to its state.

A state is a dict of the book, the listing, the receivers, the time, the recorded names and the marks, which are a dict
from names to the states that were marked. No state is changed: an operation gives another one, so that what was there
before can be kept.
"""

from fewtuners.books import Book
from fewtuners.checks import LATEST_MINUTE, check_number, is_word
from fewtuners.errors import DoubleName, InvalidName, InvalidOperation, UnknownMark, UnknownName
from fewtuners.plans import episodes_of, own_plan
from fewtuners.wishing import wished_windows


def first_state(book, listing, receivers):
    """Return the state of a new recorder."""
    return {"book": book, "listing": listing, "receivers": receivers, "time": 0, "recorded": (), "marks": {}}


def plan_of(state):
    """Return the recorder's own plan for what there is."""
    return own_plan(state["book"], state["listing"], state["receivers"])


def added(state, name, sending):
    """Return the state with one sending more (DoubleName, InvalidListing)."""
    listing = state["listing"]
    if name in listing:
        raise DoubleName("the listing has a sending with this name already")
    return {**state, "listing": listing.with_sending(name, sending)}


def without(listing, names):
    """Return a listing without some of its names."""
    return listing.only([name for name in listing.names if name not in names])


def dropped(state, name):
    """Return the state without a sending (UnknownName)."""
    listing = state["listing"]
    if name not in listing:
        raise UnknownName("no sending has this name")
    return {**state, "listing": without(listing, [name])}


def wished(state, rule):
    """Return the state with a rule behind all others (InvalidBook)."""
    book = state["book"]
    return {**state, "book": Book(book.rules + (rule,), book.seen)}


def unwished(state, index):
    """Return the state without a rule (InvalidNumber)."""
    book = state["book"]
    check_number(index, 0, len(book.rules) - 1)
    return {**state, "book": Book(book.rules[:index] + book.rules[index + 1:], book.seen)}


def watched(state, show, episode):
    """Return the state in which an episode was seen, behind all others that were."""
    return {**state, "book": state["book"].with_seen(((show, episode),))}


def finished(state, minute):
    """Return the list of the recordings of the own plan whose windows have ended by a minute, in their order."""
    windows = wished_windows(state["book"], state["listing"])
    rows = [(windows[name][1], windows[name][0], name) for name in plan_of(state)]
    return [row[2] for row in sorted(rows) if row[0] <= minute]


def gone_on(state, minute):
    """Return the state at a later minute, or the same one (InvalidNumber)."""
    check_number(minute, state["time"], LATEST_MINUTE)
    listing = state["listing"]
    names = finished(state, minute)
    # No window ends ahead of its own sending, so those that were recorded have ended, too.
    ended = [name for name in listing.names if listing[name].end <= minute]
    return {
        **state,
        "book": state["book"].with_seen(tuple(episodes_of(listing, names))),
        "listing": without(listing, ended),
        "time": minute,
        "recorded": state["recorded"] + tuple(names),
    }


def marked(state, name):
    """Return the state with a mark of what there is (InvalidName)."""
    if not is_word(name):
        raise InvalidName("the name of a mark has one to eight letters a to z")
    marks = state["marks"]
    return {**state, "marks": {**marks, name: state}}


def gone_back(state, name):
    """Return what was marked with a name last, with the marks of now (UnknownMark)."""
    marks = state["marks"]
    if name not in marks:
        raise UnknownMark("there is no mark with this name")
    there = marks[name]
    return {**there, "marks": marks}


ACTIONS = {
    "add": added,
    "drop": dropped,
    "wish": wished,
    "unwish": unwished,
    "watch": watched,
    "run": gone_on,
    "mark": marked,
    "go": gone_back,
}

ARGUMENTS = {
    "add": 2,
    "drop": 1,
    "wish": 1,
    "unwish": 1,
    "watch": 2,
    "run": 1,
    "mark": 1,
    "go": 1,
    "undo": 0,
    "redo": 0,
}


def is_operation(value):
    """Return whether a value is a tuple of an operation's name and as many arguments as it takes."""
    # The name has to be a text, as what is none of the names may be of a kind that no dict can look up.
    if not isinstance(value, tuple) or not value or not isinstance(value[0], str):
        return False
    return value[0] in ARGUMENTS and len(value) == 1 + ARGUMENTS[value[0]]


def check_operations(operations):
    """Raise InvalidOperation for the first one that has another form than operations have."""
    for index, operation in enumerate(operations):
        if not is_operation(operation):
            raise InvalidOperation(index)


def executed(state, operation):
    """Return the state behind an operation that is neither undo nor redo."""
    word, *arguments = operation
    action = ACTIONS[word]
    return action(state, *arguments)


def result_of(operation, before, after):
    """Return what the method of an operation returns, by the states before and after it."""
    if operation[0] == "run":
        return len(after["recorded"]) - len(before["recorded"])
    if operation[0] == "mark":
        return operation[1] in before["marks"]
    return len(plan_of(after))
