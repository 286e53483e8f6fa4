"""What a recorder did, told in a text."""

from fewtuners.books import Rule
from fewtuners.errors import DaybookError, InvalidRow, RecorderError
from fewtuners.listings import Sending
from fewtuners.notation import made_book, read_book
from fewtuners.phrases import listed
from fewtuners.plans import lost
from fewtuners.recorders import Recorder
from fewtuners.rows import read_row, rows_of

MOST_ENTRIES = 100
ENTRIES = ("add", "drop", "wish", "unwish", "watch", "run", "undo", "plan", "lost", "recorded")
QUESTIONS = ("plan", "lost", "recorded")


def place_of_recorder(rows):
    """Return the index of the first row whose first word is "recorder", the number of the rows if there is none."""
    firsts = [row.split(" ")[0] for row in rows]
    return firsts.index("recorder") if "recorder" in firsts else len(rows)


def read_entries(rows, place):
    """Return the list of the words of all entries, which stand behind a place (InvalidRow)."""
    found = []
    for at in range(place + 1, len(rows)):
        firsts = ENTRIES if len(found) < MOST_ENTRIES else ()
        found.append(read_row(rows[at], at, firsts))
    return found


def read_daybook(rows, place):
    """Return the words of the rows ahead of a place, of the row there, and of those behind it (InvalidRow)."""
    ahead = read_book(rows[:place])
    if place == len(rows):
        raise InvalidRow(place, 0)
    return (ahead, read_row(rows[place], place, ("recorder",)), read_entries(rows, place))


def operation_of(words):
    """Return the operation that an entry stands for (InvalidSending, InvalidRule)."""
    if words[0] == "add":
        parts = words[2:]
        return ("add", words[1], Sending(*parts))
    if words[0] == "wish":
        parts = words[1:]
        return ("wish", Rule(*parts))
    return tuple(words)


def answer_to(question, recorder, receivers):
    """Return the line of a question."""
    if question == "plan":
        plan = recorder.plan()
        return listed([f"{name} {plan[name]}" for name in plan])
    if question == "lost":
        gone = lost(recorder.book(), recorder.listing(), receivers)
        return listed([f"{show} {number}" for show, number in gone])
    return listed(recorder.recorded)


def line_of(words, recorder, receivers):
    """Execute an entry by a recorder; return its line (the errors of its operation)."""
    if words[0] in QUESTIONS:
        return answer_to(words[0], recorder, receivers)
    result = recorder.apply_all([operation_of(words)])[0]
    if words[0] == "undo":
        return "yes" if result else "no"
    return str(result)


def lines_of(entries, recorder, receivers, place):
    """Execute all entries by a recorder; return their lines (DaybookError)."""
    lines = []
    for at, words in enumerate(entries, start=place + 1):
        try:
            lines.append(line_of(words, recorder, receivers))
        except RecorderError:
            raise DaybookError(at, 0)
    return lines


def started(book, listing, receivers, place):
    """Return a new recorder (DaybookError)."""
    try:
        return Recorder(book, listing, receivers)
    except RecorderError:
        raise DaybookError(place, 0)


class Daybook:
    """A book, a listing and a recorder for them, and entries of what it does and is asked."""

    def __init__(self, text):
        rows = rows_of(text)
        place = place_of_recorder(rows)
        try:
            ahead, start, entries = read_daybook(rows, place)
        except InvalidRow as wrong:
            raise DaybookError(wrong.row, wrong.word)
        self._book, self._listing = made_book(ahead)
        self._receivers = start[1]
        recorder = started(self._book, self._listing, self._receivers, place)
        self._results = "\n".join(lines_of(entries, recorder, self._receivers, place))
        self._operations = tuple([operation_of(words) for words in entries if words[0] not in QUESTIONS])

    @property
    def results(self):
        return self._results

    def recorder(self):
        """Return a new recorder behind all entries."""
        return Recorder.replay(self._book, self._listing, self._receivers, list(self._operations))
