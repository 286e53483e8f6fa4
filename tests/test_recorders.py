"""Points 23 and 24: a recorder that goes on, and what undoes, repeats and tries its operations."""

import copy
import random
import unittest

from fewtuners.books import Book, Rule
from fewtuners.errors import (
    DoubleName, InvalidBook, InvalidListing, InvalidName, InvalidNumber, InvalidOperation, RecorderError, UnknownMark,
    UnknownName,
)
from fewtuners.listings import Listing, Sending
from fewtuners.plans import own_plan
from fewtuners.recorders import Recorder, Trial
from tests import reference
from tests.samples import (
    ODD_VALUES, WRONG_RECEIVERS, document_book, document_listing, letters, listing_of, news_book, news_listing,
    random_book, random_listing, rule, sending,
)

LATEST = 1000660
FILM = Sending("two", "film", 1, 60, 70)


def news_recorder(receivers=1):
    return Recorder(news_book(), news_listing(), receivers)


def all_of(recorder):
    """Return all that a recorder tells of itself."""
    return (recorder.book(), recorder.listing(), recorder.plan(), recorder.time, recorder.recorded, recorder.marks,
            recorder.history)


def ways_of(recorder):
    """Return all that a recorder tells of itself behind each undo and each redo that it can do.

    What it can do is tried with copies, so that the recorder stays as it is.
    """
    found = [all_of(recorder)]
    for word in ("undo", "redo"):
        other = copy.deepcopy(recorder)
        while getattr(other, word)():
            found.append((word, all_of(other)))
    return found


class RecorderTestCase(unittest.TestCase):
    def assert_unchanged(self, recorder, error, call, *arguments):
        """Check that a call raises an error and changes nothing, also for undo and redo; return the error."""
        before = ways_of(recorder)
        with self.assertRaises(error) as caught:
            call(*arguments)
        self.assertEqual(ways_of(recorder), before)
        return caught.exception


class NewRecorderTest(RecorderTestCase):
    def test_what_there_is(self):
        recorder = news_recorder(2)
        self.assertEqual(all_of(recorder), (news_book(), news_listing(), {"a": 1, "b": 0}, 0, (), [], []))

    def test_wrong_receivers(self):
        for receivers in WRONG_RECEIVERS:
            with self.subTest(receivers), self.assertRaises(InvalidNumber):
                Recorder(news_book(), news_listing(), receivers)

    def test_one_and_ten_receivers(self):
        for receivers in (1, 10):
            plan = own_plan(document_book(), document_listing(), receivers)
            self.assertEqual(Recorder(document_book(), document_listing(), receivers).plan(), plan)

    def test_what_it_returns_is_new_for_each_reading(self):
        recorder = news_recorder()
        recorder.mark("x")
        recorder.plan().clear()
        recorder.marks.clear()
        recorder.history.clear()
        recorder.listing().sendings.clear()
        self.assertEqual(recorder.plan(), {"b": 0, "c": 0})
        self.assertEqual((recorder.marks, recorder.history), (["x"], [("mark", "x")]))
        self.assertEqual(recorder.listing(), news_listing())

    def test_what_is_handed_in_stays_as_it_was(self):
        book, listing = news_book(), news_listing()
        recorder = Recorder(book, listing, 1)
        recorder.apply_all([("add", "d", FILM), ("drop", "a"), ("wish", rule()), ("unwish", 0), ("run", 40)])
        self.assertEqual((book, listing), (news_book(), news_listing()))


class AddAndDropTest(RecorderTestCase):
    def test_add(self):
        recorder = news_recorder()
        self.assertEqual(recorder.add("d", FILM), 2)
        self.assertEqual(recorder.add("ab", Sending("two", "news", 2, 30, 40)), 3)
        self.assertEqual(recorder.listing().names, ("a", "ab", "b", "c", "d"))
        self.assertEqual((recorder.listing()["d"], recorder.plan()), (FILM, {"ab": 0, "b": 0, "c": 0}))
        self.assertEqual(recorder.history, [("add", "d", FILM), ("add", "ab", Sending("two", "news", 2, 30, 40))])

    def test_double_name(self):
        recorder = news_recorder()
        for name in ("a", "b", "c"):
            self.assert_unchanged(recorder, DoubleName, recorder.add, name, FILM)

    def test_double_name_goes_ahead_of_a_full_listing(self):
        recorder = Recorder(Book(()), Listing(letters(10)), 1)
        self.assert_unchanged(recorder, DoubleName, recorder.add, "j", FILM)

    def test_invalid_listing(self):
        recorder = news_recorder()
        for name in ("", "Abc", "ninelette", "a b", 3, None, True):
            with self.subTest(name):
                error = self.assert_unchanged(recorder, InvalidListing, recorder.add, name, FILM)
                self.assertEqual(vars(error), {"name": name})

    def test_the_eleventh_name(self):
        recorder = Recorder(Book(()), Listing(letters(10)), 1)
        for name, told in (("k", "k"), ("aa", "j")):
            error = self.assert_unchanged(recorder, InvalidListing, recorder.add, name, FILM)
            self.assertEqual(error.name, told)

    def test_drop(self):
        recorder = news_recorder()
        self.assertEqual(recorder.drop("b"), 1)
        self.assertEqual((recorder.listing().names, recorder.plan()), (("a", "c"), {"a": 0}))
        self.assertEqual([recorder.drop("a"), recorder.drop("c")], [1, 0])
        self.assertEqual(recorder.listing(), Listing({}))
        self.assertEqual(recorder.history, [("drop", "b"), ("drop", "a"), ("drop", "c")])

    def test_drop_an_unknown_name(self):
        recorder = news_recorder()
        recorder.drop("b")
        for name in ("b", "d", "", "A", 3, None):
            self.assert_unchanged(recorder, UnknownName, recorder.drop, name)

    def test_a_name_that_was_dropped_may_come_again(self):
        recorder = news_recorder()
        self.assertEqual([recorder.drop("b"), recorder.add("b", FILM)], [1, 1])
        self.assertEqual(recorder.listing()["b"], FILM)


class BookTest(RecorderTestCase):
    def test_wish(self):
        recorder = news_recorder()
        recorder.add("d", FILM)
        self.assertEqual(recorder.wish(Rule("film", 1, 1, 1)), 3)
        self.assertEqual(recorder.book().rules, (*news_book().rules, Rule("film", 1, 1, 1)))
        self.assertEqual(recorder.history[1:], [("wish", Rule("film", 1, 1, 1))])

    def test_a_rule_behind_all_others(self):
        recorder = Recorder(Book((Rule("news", 1, 1, 1),)), listing_of(a=("news", 1, 0, 10)), 1)
        recorder.wish(Rule("news", 1, 1, 9, 0, 60))
        recorder.add("b", Sending("one", "news", 1, 70, 80))
        self.assertEqual(recorder.run(10), 1)

    def test_the_seventh_rule(self):
        recorder = Recorder(Book((rule(),) * 5), document_listing(), 1)
        self.assertEqual(recorder.wish(rule()), 1)
        self.assert_unchanged(recorder, InvalidBook, recorder.wish, rule())
        self.assertEqual(recorder.unwish(5), 1)
        self.assertEqual(recorder.wish(rule()), 1)

    def test_unwish(self):
        recorder = news_recorder()
        self.assertEqual(recorder.unwish(1), 1)
        self.assertEqual((recorder.book(), recorder.plan()), (Book((Rule("news", 1, 9, 2),)), {"a": 0}))
        self.assertEqual(recorder.unwish(0), 0)
        self.assertEqual(recorder.book(), Book(()))
        self.assertEqual(recorder.history, [("unwish", 1), ("unwish", 0)])

    def test_unwish_one_in_the_middle_and_keep_what_was_seen(self):
        rules = tuple(rule(priority=at) for at in range(1, 7))
        recorder = Recorder(Book(rules, (("quiz", 1),)), Listing({}), 1)
        recorder.unwish(2)
        self.assertEqual(recorder.book(), Book(rules[:2] + rules[3:], (("quiz", 1),)))
        recorder.wish(rule())
        self.assertEqual(recorder.book(), Book(rules[:2] + rules[3:] + (rule(),), (("quiz", 1),)))

    def test_an_index_of_no_rule(self):
        recorder = news_recorder()
        for index in (-1, 2, 100, True, False, None, "0", 0.0):
            with self.subTest(index):
                self.assert_unchanged(recorder, InvalidNumber, recorder.unwish, index)
        empty = Recorder(Book(()), Listing({}), 1)
        self.assert_unchanged(empty, InvalidNumber, empty.unwish, 0)

    def test_watch(self):
        recorder = Recorder(Book(news_book().rules, (("film", 7),)), news_listing(), 1)
        self.assertEqual([recorder.watch("quiz", 1), recorder.watch("news", 2)], [1, 1])
        self.assertEqual(recorder.book().seen, (("film", 7), ("quiz", 1), ("news", 2)))
        self.assertEqual((recorder.book().rules, recorder.plan()), (news_book().rules, {"a": 0}))
        self.assertEqual(recorder.watch("news", 1), 0)
        self.assertEqual(recorder.history, [("watch", "quiz", 1), ("watch", "news", 2), ("watch", "news", 1)])
        self.assertEqual((recorder.recorded, recorder.listing()), ((), news_listing()))


class RunTest(RecorderTestCase):
    def test_the_document(self):
        recorder = news_recorder()
        told = recorder.apply_all([("mark", "x"), ("run", 30), ("wish", Rule("news", 1, 1, 5)), ("undo",)])
        self.assertEqual(
            [told, recorder.recorded, recorder.plan(), recorder.time, recorder.go("x"), recorder.time],
            [[False, 1, 1, True], ("b",), {"c": 0}, 30, 2, 0],
        )

    def test_a_window_that_ends_at_this_minute(self):
        recorder = news_recorder()
        self.assertEqual([recorder.run(29), recorder.run(30)], [0, 1])
        self.assertEqual((recorder.recorded, recorder.time), (("b",), 30))

    def test_what_was_recorded_was_seen(self):
        recorder = Recorder(Book(news_book().rules, (("film", 1),)), news_listing(), 2)
        self.assertEqual(recorder.run(50), 2)
        self.assertEqual(recorder.book().seen, (("film", 1), ("news", 1), ("quiz", 1)))
        self.assertEqual(recorder.listing(), Listing({}))

    def test_what_is_taken_out_of_the_listing(self):
        recorder = news_recorder()
        self.assertEqual(recorder.run(20), 0)
        self.assertEqual((recorder.listing().names, recorder.plan()), (("b", "c"), {"b": 0, "c": 0}))
        self.assertEqual(recorder.run(30), 1)
        self.assertEqual((recorder.listing().names, recorder.plan()), (("c",), {"c": 0}))

    def test_others_by_their_own_ends(self):
        # The window of "a" goes on to 15, but "a" itself ends at 10: it is neither recorded nor left.
        book = Book((Rule("news", 1, 9, 1, 0, 5),))
        listing = listing_of(a=("news", 1, 0, 10), b=("quiz", 1, 0, 10), c=("quiz", 1, 0, 11))
        for minute, names, recorded in ((9, ("a", "b", "c"), ()), (10, ("c",), ()), (14, (), ()), (15, (), ("a",))):
            with self.subTest(minute):
                recorder = Recorder(book, listing, 1)
                self.assertEqual(recorder.run(minute), len(recorded))
                self.assertEqual((recorder.listing().names, recorder.recorded), (names, recorded))

    def test_what_has_begun_may_be_in_the_plan(self):
        recorder = Recorder(news_book(), listing_of(a=("news", 1, 0, 30)), 1)
        self.assertEqual(recorder.run(29), 0)
        self.assertEqual(recorder.plan(), {"a": 0})
        self.assertEqual(recorder.add("b", Sending("one", "quiz", 1, 5, 40)), 1)
        self.assertEqual(recorder.plan(), {"b": 0})
        self.assertEqual([recorder.run(30), recorder.run(40)], [0, 1])
        self.assertEqual(recorder.recorded, ("b",))

    def test_by_the_ends_of_their_windows(self):
        book = Book((Rule("news", 1, 9, 1), Rule("quiz", 1, 9, 1, 0, 10)))
        listing = listing_of(a=("quiz", 1, 0, 20), b=("news", 1, 0, 25), c=("news", 2, 5, 20), d=("quiz", 2, 2, 11))
        recorder = Recorder(book, listing, 4)
        self.assertEqual(recorder.run(30), 4)
        self.assertEqual(recorder.recorded, ("c", "d", "b", "a"))
        self.assertEqual(recorder.book().seen, (("news", 2), ("quiz", 2), ("news", 1), ("quiz", 1)))

    def test_then_by_the_beginnings_of_their_windows(self):
        listing = listing_of(a=("news", 1, 9, 20), b=("news", 2, 8, 20), c=("quiz", 1, 12, 20))
        book = Book((Rule("news", 1, 9, 1), Rule("quiz", 1, 9, 1, 5)))
        recorder = Recorder(book, listing, 3)
        recorder.run(20)
        self.assertEqual(recorder.recorded, ("c", "b", "a"))

    def test_then_by_names(self):
        listing = listing_of(b=("news", 1, 5, 20), aa=("news", 2, 5, 20), a=("quiz", 1, 5, 20))
        recorder = Recorder(news_book(), listing, 3)
        recorder.run(100)
        self.assertEqual(recorder.recorded, ("a", "aa", "b"))

    def test_by_the_own_plan_of_before(self):
        # What is lost to "b" stays lost, although the receiver would be free behind it.
        recorder = Recorder(news_book(), listing_of(a=("news", 1, 10, 20), b=("quiz", 1, 15, 30)), 1)
        self.assertEqual(recorder.run(30), 1)
        self.assertEqual((recorder.recorded, recorder.listing()), (("b",), Listing({})))

    def test_one_run_after_another(self):
        recorder = news_recorder(2)
        self.assertEqual([recorder.run(0), recorder.run(20), recorder.run(20), recorder.run(30)], [0, 1, 0, 1])
        self.assertEqual((recorder.recorded, recorder.listing().names), (("a", "b"), ("c",)))
        self.assertEqual(recorder.plan(), {})
        self.assertEqual(recorder.history, [("run", 0), ("run", 20), ("run", 20), ("run", 30)])

    def test_the_present_minute_and_the_latest(self):
        recorder = news_recorder()
        recorder.run(15)
        self.assertEqual([recorder.run(15), recorder.run(LATEST), recorder.run(LATEST)], [0, 2, 0])
        self.assertEqual((recorder.time, recorder.recorded), (LATEST, ("b", "c")))

    def test_the_latest_window(self):
        listing = listing_of(a=("news", 1, 10 ** 6, 10 ** 6 + 600))
        recorder = Recorder(Book((Rule("news", 1, 1, 1, 0, 60),)), listing, 1)
        self.assertEqual(recorder.run(LATEST), 1)

    def test_a_minute_that_cannot_be(self):
        recorder = news_recorder()
        recorder.run(15)
        for minute in (14, 0, -1, LATEST + 1, 10 ** 9, True, False, None, "20", 20.0):
            with self.subTest(minute):
                self.assert_unchanged(recorder, InvalidNumber, recorder.run, minute)

    def test_time_changes_nothing_else(self):
        recorder = news_recorder()
        recorder.run(100)
        self.assertEqual(recorder.add("d", Sending("one", "news", 1, 0, 10)), 0)
        self.assertEqual(recorder.add("e", Sending("one", "news", 2, 0, 10)), 1)
        self.assertEqual(recorder.run(100), 1)
        self.assertEqual((recorder.recorded, recorder.listing()), (("b", "c", "e"), Listing({})))


class MarkTest(RecorderTestCase):
    def test_mark_and_go(self):
        recorder = news_recorder()
        self.assertIs(recorder.mark("x"), False)
        recorder.apply_all([("add", "d", FILM), ("wish", rule(show="film")), ("run", 30), ("unwish", 0)])
        self.assertEqual(recorder.go("x"), 2)
        self.assertEqual((recorder.book(), recorder.listing()), (news_book(), news_listing()))
        self.assertEqual((recorder.time, recorder.recorded), (0, ()))
        self.assertEqual(len(recorder.history), 6)
        self.assertEqual(recorder.history[-1], ("go", "x"))

    def test_to_a_later_time(self):
        recorder = news_recorder()
        recorder.apply_all([("mark", "x"), ("run", 30), ("mark", "y"), ("go", "x")])
        self.assertEqual(recorder.time, 0)
        self.assertEqual(recorder.go("y"), 1)
        self.assertEqual((recorder.time, recorder.recorded, recorder.plan()), (30, ("b",), {"c": 0}))
        self.assertEqual(recorder.book().seen, (("quiz", 1),))

    def test_marks_stay_when_it_returns(self):
        recorder = news_recorder()
        recorder.apply_all([("mark", "x"), ("run", 30), ("mark", "y"), ("go", "x")])
        self.assertEqual(recorder.marks, ["x", "y"])

    def test_a_mark_set_twice(self):
        recorder = news_recorder()
        self.assertEqual([recorder.mark("x"), recorder.run(30), recorder.mark("x"), recorder.run(50)],
                         [False, 1, True, 1])
        self.assertEqual(recorder.go("x"), 1)
        self.assertEqual((recorder.time, recorder.marks), (30, ["x"]))

    def test_go_twice(self):
        recorder = news_recorder()
        recorder.apply_all([("mark", "x"), ("run", 30), ("go", "x"), ("run", 50)])
        self.assertEqual(recorder.recorded, ("b", "c"))
        self.assertEqual(recorder.go("x"), 2)
        self.assertEqual((recorder.time, recorder.recorded), (0, ()))

    def test_marks_ascend(self):
        recorder = news_recorder()
        for name in ("b", "ab", "z", "a", "eightlet", "ab"):
            recorder.mark(name)
        self.assertEqual(recorder.marks, ["a", "ab", "b", "eightlet", "z"])

    def test_invalid_name(self):
        recorder = news_recorder()
        for name in ("", "ninelette", "A", "a1", "a b", "\u00e9", 3, *ODD_VALUES):
            with self.subTest(name):
                self.assert_unchanged(recorder, InvalidName, recorder.mark, name)

    def test_unknown_mark(self):
        recorder = news_recorder()
        recorder.mark("x")
        for name in ("y", "", "X", "ninelette", 3, None):
            with self.subTest(name):
                self.assert_unchanged(recorder, UnknownMark, recorder.go, name)

    def test_a_mark_that_was_undone(self):
        recorder = news_recorder()
        recorder.mark("x")
        recorder.undo()
        self.assertEqual(recorder.marks, [])
        self.assert_unchanged(recorder, UnknownMark, recorder.go, "x")
        self.assertIs(recorder.mark("x"), False)

    def test_a_mark_that_was_undone_with_others(self):
        recorder = news_recorder()
        recorder.apply_all([("mark", "x"), ("run", 10), ("mark", "y"), ("run", 20), ("undo",), ("undo",)])
        self.assertEqual(recorder.marks, ["x"])
        self.assert_unchanged(recorder, UnknownMark, recorder.go, "y")
        recorder.redo()
        self.assertEqual((recorder.marks, recorder.go("y"), recorder.time), (["x", "y"], 2, 10))

    def test_a_mark_that_was_set_once_more_and_undone(self):
        recorder = news_recorder()
        recorder.apply_all([("run", 5), ("mark", "x"), ("run", 30), ("mark", "x"), ("undo",)])
        self.assertEqual((recorder.go("x"), recorder.time), (2, 5))

    def test_undo_of_go(self):
        recorder = news_recorder()
        recorder.apply_all([("mark", "x"), ("run", 30), ("mark", "y"), ("go", "x"), ("undo",)])
        self.assertEqual((recorder.time, recorder.recorded, recorder.marks), (30, ("b",), ["x", "y"]))
        self.assertIs(recorder.redo(), True)
        self.assertEqual((recorder.time, recorder.recorded, recorder.marks), (0, (), ["x", "y"]))


class UndoTest(RecorderTestCase):
    OPERATIONS = [("add", "d", FILM), ("drop", "a"), ("wish", rule(show="film")), ("unwish", 0), ("watch", "film", 2),
                  ("mark", "x"), ("run", 30), ("go", "x")]

    def test_nothing_to_undo_or_to_redo(self):
        recorder = news_recorder()
        before = all_of(recorder)
        self.assertEqual([recorder.undo(), recorder.redo(), recorder.undo()], [False, False, False])
        self.assertEqual(all_of(recorder), before)
        recorder.run(5)
        self.assertIs(recorder.redo(), False)
        self.assertEqual([recorder.undo(), recorder.undo(), recorder.redo(), recorder.redo()],
                         [True, False, True, False])

    def test_each_operation(self):
        recorder = news_recorder()
        states = [all_of(recorder)]
        for operation in self.OPERATIONS:
            recorder.apply_all([operation])
            states.append(all_of(recorder))
        self.assertEqual(recorder.history, self.OPERATIONS)
        for state in reversed(states[:-1]):
            self.assertIs(recorder.undo(), True)
            self.assertEqual(all_of(recorder), state)
        self.assertIs(recorder.undo(), False)
        for state in states[1:]:
            self.assertIs(recorder.redo(), True)
            self.assertEqual(all_of(recorder), state)
        self.assertIs(recorder.redo(), False)

    def test_history_has_only_what_is_in_effect(self):
        recorder = news_recorder()
        recorder.apply_all([("run", 5), ("run", 6), ("undo",), ("run", 7), ("undo",), ("redo",)])
        self.assertEqual(recorder.history, [("run", 5), ("run", 7)])

    def test_no_redo_behind_another_operation(self):
        for operation in (("run", 0), ("mark", "x"), ("add", "d", FILM)):
            recorder = news_recorder()
            recorder.run(5)
            recorder.undo()
            recorder.apply_all([operation])
            self.assertIs(recorder.redo(), False)
            self.assertEqual(recorder.time, 0)

    def test_redo_behind_what_raised_an_error(self):
        recorder = news_recorder()
        recorder.run(5)
        recorder.undo()
        self.assert_unchanged(recorder, InvalidNumber, recorder.run, -1)
        self.assert_unchanged(recorder, UnknownName, recorder.drop, "z")
        self.assertIs(recorder.redo(), True)
        self.assertEqual(recorder.time, 5)

    def test_redo_behind_what_was_only_read(self):
        recorder = news_recorder()
        recorder.run(5)
        recorder.undo()
        all_of(recorder)
        recorder.apply_all([])
        self.assertIs(recorder.redo(), True)

    def test_some_are_redone(self):
        recorder = news_recorder()
        recorder.apply_all([("run", 5), ("run", 6), ("run", 7), ("undo",), ("undo",), ("undo",), ("redo",)])
        self.assertEqual((recorder.time, recorder.history), (5, [("run", 5)]))
        recorder.apply_all([("redo",), ("undo",), ("redo",)])
        self.assertEqual(recorder.time, 6)
        recorder.run(9)
        self.assertIs(recorder.redo(), False)
        self.assertEqual(recorder.history, [("run", 5), ("run", 6), ("run", 9)])


class ApplyAllTest(RecorderTestCase):
    def test_results(self):
        operations = [("undo",), ("redo",), ("mark", "x"), ("run", 30), ("add", "d", FILM), ("watch", "film", 1),
                      ("undo",), ("undo",), ("redo",), ("wish", rule(show="film")), ("unwish", 2), ("drop", "d"),
                      ("mark", "x"), ("go", "x")]
        recorder = news_recorder()
        self.assertEqual(recorder.apply_all(operations),
                         [False, False, False, 1, 1, 1, True, True, True, 2, 1, 1, True, 1])

    def test_no_operations(self):
        recorder = news_recorder()
        self.assertEqual(recorder.apply_all([]), [])
        self.assertEqual(recorder.history, [])

    def test_as_the_methods(self):
        recorder, other = news_recorder(), news_recorder()
        told = [other.mark("x"), other.run(30), other.undo(), other.redo(), other.go("x")]
        self.assertEqual(recorder.apply_all([("mark", "x"), ("run", 30), ("undo",), ("redo",), ("go", "x")]), told)
        self.assertEqual(ways_of(recorder), ways_of(other))

    def test_names_that_are_those_of_operations(self):
        recorder = news_recorder()
        operations = [("mark", "undo"), ("mark", "redo"), ("add", "undo", FILM), ("add", "redo", FILM), ("go", "redo"),
                      ("go", "undo"), ("run", 0)]
        self.assertEqual(recorder.apply_all(operations), [False, False, 2, 2, 2, 2, 0])
        self.assertEqual(recorder.apply_all([("add", "undo", FILM), ("drop", "undo"), ("mark", "redo")]), [2, 2, True])

    def test_invalid_operation(self):
        wrong = [(), ("run",), ("run", 1, 2), ("add", "d"), ("add", "d", FILM, 1), ("drop",), ("wish",), ("unwish",),
                 ("watch", "news"), ("watch", "news", 1, 2), ("mark",), ("go",), ("go", "x", "y"), ("undo", 1),
                 ("redo", 1), ("Run", 5), ("", 5), ("run ", 5), ("jump", 5), ["run", 5], "run", "undo", ["undo"],
                 5, None, ("book",), ("plan",), ("listing",), ("history",), ("apply_all", []), ("tried", [], True),
                 ("replay",), ("_execute", ("run", 5)), (3, 5), (None,), (["run"], 5), ({}, 5), (("run", 5),), (True,)]
        recorder = news_recorder()
        recorder.apply_all([("run", 5), ("run", 6), ("undo",)])
        for value in wrong:
            with self.subTest(value):
                for call in (recorder.apply_all, lambda rows: recorder.tried(rows, True)):
                    error = self.assert_unchanged(recorder, InvalidOperation, call, [value])
                    self.assertEqual(vars(error), {"index": 0})
                    error = self.assert_unchanged(recorder, InvalidOperation, call,
                                                  [("run", 7), ("undo",), value, value])
                    self.assertEqual(error.index, 2)

    def test_the_document(self):
        with self.assertRaises(InvalidOperation) as caught:
            Recorder(Book(()), Listing({}), 1).apply_all([("undo",), ("run",)])
        self.assertEqual(vars(caught.exception), {"index": 1})

    def test_invalid_operation_goes_ahead_of_all_other_errors(self):
        recorder = news_recorder()
        for first in (("run", -1), ("drop", "z"), ("mark", "X"), ("go", "z"), ("unwish", 9), ("add", "a", FILM)):
            error = self.assert_unchanged(recorder, InvalidOperation, recorder.apply_all, [first, ("run", 1), ("run",)])
            self.assertEqual(error.index, 2)

    def test_an_operation_that_fails_in_the_middle(self):
        for operation, error in ((("run", 3), InvalidNumber), (("drop", "z"), UnknownName), (("mark", ""), InvalidName),
                                 (("go", "z"), UnknownMark), (("unwish", 2), InvalidNumber),
                                 (("add", "b", FILM), DoubleName), (("add", "B", FILM), InvalidListing)):
            with self.subTest(operation):
                recorder = news_recorder()
                recorder.apply_all([("mark", "x"), ("run", 5), ("run", 6), ("run", 7), ("undo",), ("undo",)])
                operations = [("redo",), ("mark", "y"), ("run", 30), ("undo",), operation, ("run", 40)]
                self.assert_unchanged(recorder, error, recorder.apply_all, operations)
                self.assertEqual((recorder.time, recorder.marks), (5, ["x"]))
                self.assertEqual([recorder.redo(), recorder.redo(), recorder.time], [True, True, 7])

    def test_the_seventh_rule_in_the_middle(self):
        recorder = Recorder(Book((rule(),) * 5), Listing({}), 1)
        self.assert_unchanged(recorder, InvalidBook, recorder.apply_all, [("wish", rule()), ("wish", rule())])

    def test_undo_of_what_was_there_before(self):
        recorder = news_recorder()
        recorder.run(5)
        self.assertEqual(recorder.apply_all([("undo",), ("undo",), ("run", 4)]), [True, False, 0])
        self.assertEqual(recorder.history, [("run", 4)])

    def test_the_list_stays_as_it_was(self):
        operations = [("run", 5), ("undo",)]
        recorder = news_recorder()
        results = recorder.apply_all(operations)
        results.clear()
        operations.append(("run", 6))
        self.assertEqual(operations, [("run", 5), ("undo",), ("run", 6)])
        self.assertEqual(recorder.history, [])


class ReplayTest(RecorderTestCase):
    def test_the_history_of_another_one(self):
        recorder = news_recorder(2)
        recorder.apply_all([*UndoTest.OPERATIONS, ("undo",), ("mark", "y")])
        other = Recorder.replay(news_book(), news_listing(), 2, recorder.history)
        self.assertIsInstance(other, Recorder)
        self.assertEqual(all_of(other), all_of(recorder))

    def test_with_undo_and_redo(self):
        other = Recorder.replay(news_book(), news_listing(), 1, [("run", 5), ("run", 6), ("undo",)])
        self.assertEqual((other.time, other.history), (5, [("run", 5)]))
        self.assertEqual([other.redo(), other.time], [True, 6])

    def test_no_operations(self):
        self.assertEqual(all_of(Recorder.replay(news_book(), news_listing(), 1, [])), all_of(news_recorder()))

    def test_errors(self):
        with self.assertRaises(InvalidNumber):
            Recorder.replay(news_book(), news_listing(), 0, [("run",)])
        with self.assertRaises(InvalidOperation) as caught:
            Recorder.replay(news_book(), news_listing(), 1, [("drop", "z"), ("run",)])
        self.assertEqual(caught.exception.index, 1)
        with self.assertRaises(UnknownName):
            Recorder.replay(news_book(), news_listing(), 1, [("drop", "a"), ("drop", "a")])

    def test_its_errors_are_of_the_package(self):
        with self.assertRaises(RecorderError):
            Recorder.replay(news_book(), news_listing(), 1, [("go", "x")])


class TrialTest(RecorderTestCase):
    def started(self):
        """Return a recorder that has something to undo and to redo, and a mark."""
        recorder = news_recorder()
        recorder.apply_all([("mark", "x"), ("run", 5), ("run", 6), ("run", 7), ("undo",), ("undo",)])
        return recorder

    def test_not_held(self):
        recorder = self.started()
        before = ways_of(recorder)
        with Trial(recorder) as trial:
            self.assertIsInstance(trial, Trial)
            self.assertEqual([recorder.mark("y"), recorder.run(30), recorder.undo(), recorder.undo()],
                             [False, 1, True, True])
            self.assertEqual([recorder.undo(), recorder.drop("a")], [True, 2])
        self.assertEqual(ways_of(recorder), before)
        self.assertEqual([recorder.redo(), recorder.redo(), recorder.time, recorder.redo()], [True, True, 7, False])

    def test_held(self):
        recorder, other = self.started(), self.started()
        with Trial(recorder) as trial:
            recorder.mark("y")
            trial.hold()
            recorder.run(30)
            recorder.undo()
        other.apply_all([("mark", "y"), ("run", 30), ("undo",)])
        self.assertEqual(ways_of(recorder), ways_of(other))
        self.assertEqual([recorder.redo(), recorder.recorded], [True, ("b",)])

    def test_held_at_once(self):
        recorder = self.started()
        with Trial(recorder) as trial:
            trial.hold()
        self.assertEqual(ways_of(recorder), ways_of(self.started()))

    def test_only_redo(self):
        recorder = self.started()
        before = ways_of(recorder)
        with Trial(recorder):
            recorder.redo()
            recorder.redo()
        self.assertEqual(ways_of(recorder), before)

    def test_an_error_leaves_the_block(self):
        recorder = self.started()
        before = ways_of(recorder)
        for error in (KeyError, InvalidNumber):
            with self.assertRaises(error):
                with Trial(recorder):
                    recorder.run(30)
                    raise error("in the block")
            self.assertEqual(ways_of(recorder), before)

    def test_an_error_leaves_the_block_of_one_that_was_held(self):
        recorder = self.started()
        with self.assertRaises(UnknownName):
            with Trial(recorder) as trial:
                recorder.run(30)
                trial.hold()
                recorder.drop("z")
        self.assertEqual((recorder.time, recorder.recorded), (30, ("b",)))

    def test_one_in_another(self):
        recorder = self.started()
        before = ways_of(recorder)
        with Trial(recorder) as outer:
            recorder.run(10)
            with Trial(recorder) as inner:
                recorder.run(30)
                inner.hold()
            self.assertEqual(recorder.time, 30)
            with Trial(recorder):
                recorder.run(40)
            self.assertEqual(recorder.time, 30)
        self.assertEqual(ways_of(recorder), before)
        with Trial(recorder) as outer:
            recorder.run(10)
            with Trial(recorder):
                recorder.run(30)
            outer.hold()
        self.assertEqual(recorder.time, 10)

    def test_the_beginning_of_the_block_counts(self):
        recorder = self.started()
        trial = Trial(recorder)
        recorder.run(10)
        with trial:
            recorder.run(20)
        self.assertEqual(recorder.time, 10)

    def test_one_trial_for_two_blocks(self):
        recorder = self.started()
        trial = Trial(recorder)
        with trial:
            recorder.run(10)
            trial.hold()
        with trial:
            recorder.run(20)
        self.assertEqual(recorder.time, 10)


class TriedTest(RecorderTestCase):
    def test_not_kept(self):
        recorder = news_recorder()
        recorder.apply_all([("run", 5), ("run", 6), ("undo",)])
        before = ways_of(recorder)
        self.assertEqual(recorder.tried([("redo",), ("run", 30), ("mark", "x")], False), [True, 1, False])
        self.assertEqual(ways_of(recorder), before)

    def test_kept(self):
        recorder, other = news_recorder(), news_recorder()
        operations = [("run", 30), ("mark", "x"), ("undo",)]
        self.assertEqual(recorder.tried(operations, True), [1, False, True])
        other.apply_all(operations)
        self.assertEqual(ways_of(recorder), ways_of(other))

    def test_no_operations(self):
        recorder = news_recorder()
        self.assertEqual([recorder.tried([], True), recorder.tried([], False), recorder.history], [[], [], []])

    def test_errors(self):
        recorder = news_recorder()
        recorder.apply_all([("run", 5), ("run", 6), ("undo",)])
        for keep in (True, False):
            self.assert_unchanged(recorder, UnknownName, recorder.tried, [("run", 7), ("drop", "z")], keep)
            self.assert_unchanged(recorder, InvalidOperation, recorder.tried, [("drop", "z"), ("go",)], keep)


class Model:
    """A recorder as the document tells it, that keeps all that it knows in one place, to compare the program with."""

    def __init__(self, book, listing, receivers):
        self.receivers = receivers
        self.now = (book.rules, book.seen, listing.sendings, 0, (), {})
        self.done, self.undone = [], []

    def plan(self):
        book = Book(self.now[0], self.now[1])
        return dict(sorted(reference.taken_up(book, Listing(self.now[2]), self.receivers)))

    def run(self, minute):
        rules, seen, sendings, _, recorded, marks = self.now
        minutes = reference.windows(Book(rules, seen), Listing(sendings))
        ended = [name for name in self.plan() if max(minutes[name]) < minute]
        ended.sort(key=lambda name: (max(minutes[name]), min(minutes[name]), name))
        seen += tuple((sendings[name].show, sendings[name].episode) for name in ended)
        left = {name: one for name, one in sendings.items() if name not in ended and one.end > minute}
        self.now = (rules, seen, left, minute, recorded + tuple(ended), marks)
        return len(ended)

    def execute(self, operation):
        word, *rest = operation
        if word in ("undo", "redo"):
            return self.back() if word == "undo" else self.again()
        result = self.perform(word, *rest)
        self.undone = []
        return result

    def back(self):
        if not self.done:
            return False
        operation, self.now = self.done.pop()
        self.undone.append(operation)
        return True

    def again(self):
        if not self.undone:
            return False
        self.perform(*self.undone.pop())
        return True

    def perform(self, word, *rest):
        self.done.append(((word, *rest), copy.deepcopy(self.now)))
        rules, seen, sendings, time, recorded, marks = self.now
        if word == "run":
            return self.run(*rest)
        if word == "mark":
            self.now = (rules, seen, sendings, time, recorded, {**marks, rest[0]: self.now[:5]})
            return rest[0] in marks
        if word == "add":
            sendings = {**sendings, rest[0]: rest[1]}
        elif word == "drop":
            sendings = {name: one for name, one in sendings.items() if name != rest[0]}
        elif word == "wish":
            rules += (rest[0],)
        elif word == "unwish":
            rules = tuple(one for at, one in enumerate(rules) if at != rest[0])
        elif word == "watch":
            seen += ((rest[0], rest[1]),)
        else:
            rules, seen, sendings, time, recorded = marks[rest[0]]
        self.now = (rules, seen, sendings, time, recorded, marks)
        return len(self.plan())


def random_operation(chance, recorder):
    """Return some operation that raises no error."""
    names, spare = recorder.listing().names, recorder.book().rules
    added = random_listing(chance, 1).sendings
    ways = [("undo",), ("undo",), ("redo",), ("run", recorder.time + chance.choice((0, 1, 5, 10, 20))),
            ("watch", chance.choice(("news", "quiz")), chance.randint(1, 3)), ("mark", chance.choice(("x", "y")))]
    if names:
        ways.append(("drop", chance.choice(names)))
    if len(names) < 10:
        ways += [("add", name, one) for name, one in added.items() if name not in names]
    ways += [("wish", one) for one in random_book(chance).rules[:1] if len(spare) < 6]
    if spare:
        ways.append(("unwish", chance.randrange(len(spare))))
    if recorder.marks:
        ways.append(("go", chance.choice(recorder.marks)))
    return chance.choice(ways)


class ModelTest(unittest.TestCase):
    def test_as_the_document_tells_it(self):
        chance = random.Random(23)
        for _ in range(40):
            book, listing, receivers = random_book(chance), random_listing(chance), chance.randint(1, 3)
            recorder, model = Recorder(book, listing, receivers), Model(book, listing, receivers)
            for _ in range(25):
                operation = random_operation(chance, recorder)
                word, *rest = operation
                self.assertEqual(getattr(recorder, word)(*rest), model.execute(operation), operation)
                told = (recorder.book().rules, recorder.book().seen, recorder.listing().sendings, recorder.time,
                        recorder.recorded)
                self.assertEqual(told, model.now[:5])
                self.assertEqual(recorder.marks, sorted(model.now[5]))
                self.assertEqual(list(recorder.plan().items()), list(model.plan().items()))
                self.assertEqual(recorder.history, [row[0] for row in model.done])
            again = Recorder.replay(book, listing, receivers, recorder.history)
            self.assertEqual(all_of(again), all_of(recorder))


if __name__ == "__main__":
    unittest.main()
