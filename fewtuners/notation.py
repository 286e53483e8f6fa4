"""Books and listings as texts."""

from fewtuners.books import Book, Rule
from fewtuners.listings import Listing, Sending
from fewtuners.rows import read_row, rows_of

# In the order in which rows with these first words stand.
FIRSTS = ("rule", "seen", "sending")


def rule_row(rule):
    """Return the row of a rule."""
    return f"rule {rule.show} {rule.first} {rule.last} {rule.priority} {rule.before} {rule.after}"


def sending_row(name, sending):
    """Return the row of a sending with a name."""
    episode = f"{sending.channel} {sending.show} {sending.episode}"
    return f"sending {name} {episode} {sending.begin} {sending.end} {sending.late}"


def format_book(book, listing):
    """Return the text of a book and a listing."""
    rows = [rule_row(rule) for rule in book.rules]
    rows = rows + [f"seen {show} {number}" for show, number in book.seen]
    rows = rows + [sending_row(name, listing[name]) for name in listing.names]
    return "\n".join(rows)


def read_book(rows):
    """Return the list of the lists of the words of some rows (InvalidRow)."""
    found = []
    firsts = FIRSTS
    ahead = ""
    for at, row in enumerate(rows):
        words = read_row(row, at, firsts, ahead)
        firsts = FIRSTS[FIRSTS.index(words[0]):]
        if words[0] == "sending":
            ahead = words[1]
        found.append(words)
    return found


def parts_of(rows, first):
    """Return the list of what stands behind the first word in those rows that have it."""
    return [words[1:] for words in rows if words[0] == first]


def made_book(rows):
    """Return the tuple (book, listing) of the words of some rows (InvalidRule to InvalidListing)."""
    rules = [Rule(*parts) for parts in parts_of(rows, "rule")]
    book = Book(rules, [tuple(parts) for parts in parts_of(rows, "seen")])
    sendings = {name: Sending(*parts) for name, *parts in parts_of(rows, "sending")}
    return (book, Listing(sendings))


def parse_book(text):
    """Return the tuple (book, listing) of a text."""
    return made_book(read_book(rows_of(text)))
