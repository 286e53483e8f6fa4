"""Point 29: what a recorder did, told in a text."""

import random
import unittest

from fewtuners.books import Book, Rule
from fewtuners.daybooks import Daybook
from fewtuners.errors import (
    DaybookError, InvalidBook, InvalidListing, InvalidRow, InvalidRule, InvalidSending, RecorderError,
)
from fewtuners.listings import Listing, Sending
from fewtuners.notation import format_book, parse_book
from fewtuners.plans import lost
from fewtuners.recorders import Recorder
from tests.samples import news_book, news_listing, random_book, random_listing
from tests.test_notation import NO_NUMBERS, NO_WORDS, RULE, SEEN, SENDING, sending_rows
from tests.test_recorders import all_of, random_operation, ways_of

NEWS = format_book(news_book(), news_listing())


def news_daybook(*entries, receivers=1):
    """Return the daybook of the news with some entries."""
    return Daybook("\n".join([NEWS, f"recorder {receivers}", *entries]))


class ResultsTest(unittest.TestCase):
    def assert_results(self, entries, results, receivers=1):
        self.assertEqual(news_daybook(*entries, receivers=receivers).results, "\n".join(results))

    def test_the_document(self):
        text = ("rule news 1 9 2 0 0\nsending a one news 1 10 20 0\nrecorder 1\nplan\nadd b one news 2 15 30 0\nlost\n"
                "run 20\nrecorded")
        book = Daybook(text)
        self.assertEqual([book.results, book.recorder().recorded], ["a 0\n1\nnews 2\n1\na", ("a",)])

    def test_no_entries(self):
        self.assert_results([], [])
        self.assertEqual(Daybook("recorder 10").results, "")

    def test_no_rows_of_a_book(self):
        self.assertEqual(Daybook("recorder 2\nplan\nlost\nrecorded").results, "-\n-\n-")
        self.assertEqual(Daybook(f"{SENDING}\nrecorder 1\nplan").results, "-")
        self.assertEqual(Daybook(f"{RULE}\nrecorder 1\nadd a one news 2 10 20 5").results, "1")

    def test_add(self):
        entries = ["add d two news 2 60 70 0", "add aa two film 1 80 90 5", "plan"]
        self.assert_results(entries, ["3", "3", "b 0, c 0, d 0"])

    def test_a_name_that_is_added_need_not_be_greater(self):
        self.assert_results(["add z two film 1 60 70 0", "add d two film 1 60 70 0"], ["2", "2"])

    def test_drop(self):
        self.assert_results(["drop b", "plan", "drop a", "drop c", "plan"], ["1", "a 0", "1", "0", "-"])

    def test_wish(self):
        self.assert_results(["add d two film 1 60 70 0", "wish film 1 1 9 60 60", "plan"], ["2", "1", "d 0"])

    def test_unwish(self):
        self.assert_results(["unwish 1", "plan", "unwish 0"], ["1", "a 0", "0"])

    def test_watch(self):
        self.assert_results(["watch quiz 1", "plan", "watch news 1", "watch film 0", "watch film 9999999"],
                            ["1", "a 0", "0", "0", "0"])

    def test_run(self):
        self.assert_results(["run 29", "recorded", "run 30", "recorded", "run 1000660", "recorded"],
                            ["0", "-", "1", "b", "1", "b, c"])
        self.assert_results(["run 0", "run 0", "run 50"], ["0", "0", "2"], 3)

    def test_undo(self):
        self.assert_results(["undo", "run 30", "undo", "recorded", "undo"], ["no", "1", "yes", "-", "no"])

    def test_plan(self):
        self.assert_results(["plan"], ["b 0, c 0"])
        self.assert_results(["plan"], ["a 1, b 0"], 2)

    def test_lost(self):
        self.assert_results(["lost", "add d one quiz 2 14 21 0", "lost", "add e two quiz 3 15 16 0", "lost"],
                            ["-", "2", "quiz 1", "2", "quiz 1, quiz 3"])
        self.assert_results(["drop c", "lost"], ["1", "news 1"])
        self.assert_results(["drop c", "lost"], ["2", "-"], 2)

    def test_recorded(self):
        self.assert_results(["recorded", "run 50", "recorded"], ["-", "2", "a, b"], 2)

    def test_questions_change_nothing(self):
        self.assert_results(["run 30", "undo", "plan", "lost", "recorded", "run 30"],
                            ["1", "yes", "b 0, c 0", "-", "-", "1"])

    def test_each_operation_and_question(self):
        entries = ["add d two film 1 60 70 0", "wish film 1 9 1 5 0", "plan", "drop c", "lost", "unwish 2", "undo",
                   "watch news 1", "run 70", "recorded", "plan"]
        self.assert_results(entries, ["2", "3", "b 0, c 0, d 0", "2", "news 1", "1", "yes", "2", "2", "b, d", "-"])

    def test_names_that_are_first_words(self):
        entries = ["add plan two film 1 60 70 0", "add undo lost recorder 1 60 70 0", "drop plan", "drop undo", "undo"]
        self.assert_results(entries, ["2", "2", "2", "2", "yes"])
        text = "rule rule 1 9 1 0 0\nseen seen 1\nsending recorder sending rule 1 0 5 0\nrecorder 1\nplan"
        self.assertEqual(Daybook(text).results, "recorder 0")
        daybook = news_daybook("add plan two film 1 60 70 0", "drop plan")
        self.assertEqual(daybook.recorder().history[1:], [("drop", "plan")])

    def test_one_hundred_entries(self):
        self.assert_results(["plan"] * 100, ["b 0, c 0"] * 100)
        self.assert_results(["undo"] * 99 + ["run 50"], ["no"] * 99 + ["2"])


class RecorderTest(unittest.TestCase):
    def test_behind_all_entries(self):
        daybook = news_daybook("run 15", "plan", "add d two news 2 60 70 0", "run 30", "undo", "watch film 1")
        recorder = daybook.recorder()
        self.assertIsInstance(recorder, Recorder)
        self.assertEqual((recorder.time, recorder.recorded, recorder.plan()), (15, (), {"b": 0, "c": 0, "d": 0}))
        self.assertEqual(recorder.history,
                         [("run", 15), ("add", "d", Sending("two", "news", 2, 60, 70)), ("watch", "film", 1)])

    def test_no_entries(self):
        self.assertEqual(all_of(news_daybook(receivers=2).recorder()), all_of(Recorder(news_book(), news_listing(), 2)))

    def test_new_each_time(self):
        daybook = news_daybook("run 15")
        recorder = daybook.recorder()
        recorder.apply_all([("run", 30), ("drop", "c"), ("mark", "x")])
        self.assertEqual((daybook.recorder().time, daybook.recorder().marks, daybook.results), (15, [], "0"))
        self.assertEqual(ways_of(daybook.recorder()), ways_of(news_daybook("run 15").recorder()))
        self.assertEqual(recorder.time, 30)

    def test_what_was_undone_can_be_redone(self):
        recorder = news_daybook("run 15", "run 16", "undo", "plan").recorder()
        self.assertEqual([recorder.redo(), recorder.time, recorder.redo()], [True, 16, False])

    def test_what_was_seen(self):
        recorder = Daybook(f"{SEEN}\nseen news 1\nrecorder 1\nwatch a 1").recorder()
        self.assertEqual(recorder.book(), Book((), (("quiz", 3), ("news", 1), ("a", 1))))

    def test_as_the_methods(self):
        chance = random.Random(29)
        for _ in range(30):
            book, listing, receivers = random_book(chance), random_listing(chance), chance.randint(1, 3)
            recorder = Recorder(book, listing, receivers)
            rows, results = [format_book(book, listing), f"recorder {receivers}"], []
            for _ in range(20):
                operation = random_operation(chance, recorder)
                if operation[0] in ("redo", "mark", "go"):
                    continue
                rows.append(row_of(*operation))
                result = recorder.apply_all([operation])[0]
                results.append({True: "yes", False: "no"}[result] if operation == ("undo",) else str(result))
                rows += ["plan", "lost", "recorded"]
                results.append(", ".join(f"{name} {at}" for name, at in recorder.plan().items()) or "-")
                gone = lost(recorder.book(), recorder.listing(), receivers)
                results.append(", ".join(f"{show} {number}" for show, number in gone) or "-")
                results.append(", ".join(recorder.recorded) or "-")
            daybook = Daybook("\n".join(row for row in rows if row))
            self.assertEqual(daybook.results, "\n".join(results))
            self.assertEqual(ways_of(daybook.recorder()), ways_of(recorder))


def row_of(word, *rest):
    """Return the row of an operation."""
    if word == "add":
        return format_book(Book(()), Listing({rest[0]: rest[1]})).replace("sending", "add", 1)
    if word == "wish":
        return format_book(Book(rest), Listing({})).replace("rule", "wish", 1)
    return " ".join([word, *map(str, rest)])


class DaybookErrorTest(unittest.TestCase):
    ENTRIES = (("wwwnnnn", "add d two film 1 60 70 0"), ("w", "drop a"), ("wnnnnn", "wish film 1 1 9 60 60"),
               ("n", "unwish 0"), ("wn", "watch news 1"), ("n", "run 5"), ("", "undo"), ("", "plan"), ("", "lost"),
               ("", "recorded"))

    def assert_wrong(self, row, word, *rows):
        text = "\n".join(rows)
        with self.subTest(text), self.assertRaises(DaybookError) as caught:
            Daybook(text)
        self.assertEqual(vars(caught.exception), {"row": row, "word": word}, text)

    def test_the_document(self):
        self.assert_wrong(1, 0, "recorder 1", "drop a")

    def test_no_row_recorder(self):
        self.assert_wrong(0, 0, "")
        self.assert_wrong(1, 0, RULE)
        self.assert_wrong(3, 0, RULE, SEEN, SENDING)

    def test_all_other_words_go_ahead_of_no_row_recorder(self):
        self.assert_wrong(0, 1, "rule 7")
        self.assert_wrong(1, 2, RULE, "seen quiz x", SENDING)
        self.assert_wrong(1, 0, RULE, "plan")
        self.assert_wrong(1, 0, RULE, "")
        self.assert_wrong(0, 0, "", "")
        self.assert_wrong(0, 0, "Recorder 1")

    def test_no_row_recorder_goes_ahead_of_the_errors_of_a_book(self):
        self.assert_wrong(1, 0, "rule news 0 9 2 1 0")
        self.assert_wrong(7, 0, *[RULE] * 7)
        self.assert_wrong(11, 0, *sending_rows(11))

    def test_rows_of_a_book(self):
        self.assert_wrong(0, 2, "rule news x 9 2 1 0", "recorder 1")
        self.assert_wrong(1, 0, SEEN, RULE, "recorder 1")
        self.assert_wrong(1, 1, SENDING, SENDING, "recorder 1")
        self.assert_wrong(0, 0, "", "recorder 1")
        self.assert_wrong(0, 0, "plan", "recorder 1")
        self.assert_wrong(0, 7, f"{RULE} ", "recorder 1")
        for _, entry in self.ENTRIES:
            self.assert_wrong(1, 0, RULE, entry, "recorder 1")

    def test_the_row_recorder(self):
        for wrong in NO_NUMBERS:
            self.assert_wrong(0, 1, f"recorder {wrong}")
            self.assert_wrong(1, 1, RULE, f"recorder {wrong}", "jump")
        self.assert_wrong(0, 1, "recorder")
        self.assert_wrong(1, 1, RULE, "recorder", "plan")
        self.assert_wrong(0, 2, "recorder 1 1")
        self.assert_wrong(0, 2, "recorder 1 ")
        self.assert_wrong(0, 0, " recorder 1")

    def test_the_first_row_recorder_is_this_row(self):
        self.assert_wrong(1, 0, "recorder 1", "recorder 1")
        self.assert_wrong(0, 1, "recorder x", "recorder 1")
        self.assert_wrong(0, 1, "recorder", "recorder 1")
        self.assert_wrong(2, 0, "recorder 1", "plan", "recorder 1", "plan")

    def test_first_words_of_entries(self):
        for word in ("", "jump", "Plan", "redo", "mark x", "go x", RULE, SEEN, SENDING, "book", "tried"):
            self.assert_wrong(1, 0, "recorder 1", word)
            self.assert_wrong(2, 0, "recorder 1", "plan", word, "jump")

    def test_each_word_of_each_entry(self):
        for kinds, row in self.ENTRIES:
            words = row.split(" ")
            self.assertEqual(len(words), 1 + len(kinds))
            for at, kind in enumerate(kinds, start=1):
                for wrong in NO_WORDS if kind == "w" else NO_NUMBERS:
                    self.assert_wrong(1, at, "recorder 1", " ".join([*words[:at], wrong, *words[at + 1:]]))
            for many in range(1, len(words)):
                self.assert_wrong(2, many, "recorder 1", "plan", " ".join(words[:many]), "jump")
            for more in ("7", "a", "", "7 a"):
                self.assert_wrong(1, len(words), "recorder 1", f"{row} {more}")

    def test_an_empty_row_at_the_end(self):
        self.assert_wrong(1, 0, "recorder 1", "")
        self.assert_wrong(2, 0, "recorder 1", "plan", "")

    def test_the_101st_entry(self):
        self.assert_wrong(102, 0, RULE, "recorder 1", *["plan"] * 101)
        self.assert_wrong(101, 0, "recorder 1", *["plan"] * 150)
        self.assert_wrong(101, 0, "recorder 1", *["plan"] * 100, "run x")
        self.assert_wrong(101, 0, "recorder 1", *["plan"] * 100, "")
        self.assert_wrong(100, 1, "recorder 1", *["plan"] * 99, "run x", "plan")
        self.assert_wrong(101, 0, "recorder 0", *["drop z"] * 101)

    def test_words_go_ahead_of_all_other_errors(self):
        self.assert_wrong(8, 1, *[RULE] * 7, "recorder 0", "run x")
        self.assert_wrong(2, 1, "rule news 0 9 2 1 0", "recorder 1", "run x")
        self.assert_wrong(3, 0, "sending a b c 0 5 5 0", "recorder 1", "drop z", "jump")

    def test_the_receivers(self):
        for receivers in (0, 11, 9999999):
            self.assert_wrong(0, 0, f"recorder {receivers}")
            self.assert_wrong(1, 0, RULE, f"recorder {receivers}", "drop z")

    def test_the_first_entry_that_raises_an_error(self):
        for entry in ("add a two film 1 60 70 0", "add d two film 0 60 70 0", "add d two film 1 60 60 0",
                      "add d two film 1 60 70 61", "add d two film 1 9999999 70 0", "drop z", "wish film 0 1 9 0 0",
                      "wish film 2 1 9 0 0", "wish film 1 1 10 0 0", "wish film 1 1 9 0 61", "unwish 2", "run 14",
                      "run 1000661", "run 9999999"):
            self.assert_wrong(7, 0, NEWS, "recorder 1", "run 15", entry)
            self.assert_wrong(7, 0, NEWS, "recorder 1", "run 15", entry, "drop z", entry)
            self.assert_wrong(10, 0, NEWS, "recorder 1", "plan", "run 15", "undo", "run 15", entry)

    def test_the_seventh_rule_and_the_eleventh_sending(self):
        self.assert_wrong(8, 0, *[RULE] * 6, "recorder 1", "plan", "wish film 1 1 9 0 0")
        self.assert_wrong(12, 0, *sending_rows(10), "recorder 1", "plan", "add z two film 1 60 70 0")
        self.assert_wrong(13, 0, *sending_rows(10), "recorder 1", "drop a", "add z c s 1 0 1 0", "add y c s 1 0 1 0")

    def test_an_entry_that_raises_an_error_behind_undo(self):
        self.assert_wrong(3, 0, "recorder 1", "add a one film 1 0 1 0", "undo", "drop a")
        self.assert_wrong(4, 0, "recorder 1", "wish film 1 1 9 0 0", "unwish 0", "plan", "unwish 0")


class ErrorsOfTheBookTest(unittest.TestCase):
    def assert_error(self, error, attributes, *rows):
        with self.assertRaises(error) as caught:
            Daybook("\n".join(rows))
        self.assertEqual(vars(caught.exception), attributes)

    def test_they_go_ahead_of_those_of_entries(self):
        behind = ("recorder 0", "drop z")
        self.assert_error(InvalidRule, {"part": "first"}, "rule news 0 9 2 1 0", "sending a b c 0 5 5 0", *behind)
        self.assert_error(InvalidBook, {}, *[RULE] * 7, "sending a b c 0 5 5 0", *behind)
        self.assert_error(InvalidSending, {"part": "episode"}, RULE, "sending a b c 0 5 5 0", *behind)
        self.assert_error(InvalidListing, {"name": "k"}, *sending_rows(11), *behind)

    def test_the_same_as_of_parse_book(self):
        for rows in (["rule news 5 4 2 1 0"], [RULE] * 8, ["sending a b c 1 5 5 0"], sending_rows(12)):
            with self.assertRaises(RecorderError) as caught:
                parse_book("\n".join(rows))
            self.assert_error(caught.exception.__class__, vars(caught.exception), *rows, "recorder 1")

    def test_wrong_words_are_no_invalid_row(self):
        with self.assertRaises(RecorderError) as caught:
            Daybook("rule\nrecorder 1")
        self.assertNotIsInstance(caught.exception, InvalidRow)


if __name__ == "__main__":
    unittest.main()
