"""Points 12 and 13: what is whole although sendings are late, and how much padding makes all whole."""

import itertools
import unittest

from fewtuners.books import Book, Rule
from fewtuners.delays import least_more, surely_whole, whole
from fewtuners.errors import InvalidDelay, InvalidNumber
from fewtuners.listings import Listing, Sending
from fewtuners.plans import own_plan
from tests import reference
from tests.samples import ODD_VALUES, WRONG_RECEIVERS, document_book, document_listing, random_cases


def late_listing(**sendings):
    """Return a listing of named tuples (show, episode, begin, end, late)."""
    return Listing({name: Sending("one", *parts) for name, parts in sendings.items()})


class WholeTest(unittest.TestCase):
    def assert_delay(self, name, delays, plan=None):
        with self.assertRaises(InvalidDelay) as caught:
            whole(document_book(), document_listing(), {"ant": 0} if plan is None else plan, delays)
        self.assertEqual(caught.exception.name, name)

    def test_the_document(self):
        book, listing = document_book(), document_listing()
        self.assertEqual(whole(book, listing, {"ant": 0}, {"ant": 2}), ["ant"])
        self.assertEqual(whole(book, listing, {"ant": 0}, {"ant": 3}), [])
        self.assert_delay("bee", {"bee": 2})

    def test_no_recording(self):
        self.assertEqual(whole(document_book(), document_listing(), {}, {"ant": 3, "bee": 1}), [])
        self.assertEqual(whole(Book(()), Listing({}), {}, {}), [])

    def test_none_is_late_if_nothing_is_told(self):
        plan = {"bee": 1, "ant": 0}
        self.assertEqual(whole(document_book(), document_listing(), plan, {}), ["ant", "bee"])
        self.assertEqual(whole(document_book(), document_listing(), plan, {"bee": 1}), ["ant"])
        self.assertEqual(whole(document_book(), document_listing(), plan, {"bee": 0, "ant": 0}), ["ant", "bee"])

    def test_as_late_as_the_padding_behind(self):
        listing = late_listing(a=("news", 1, 10, 20, 60), b=("news", 2, 100, 110, 60))
        book = Book((Rule("news", 1, 1, 1, 60, 5), Rule("news", 2, 2, 1, 0, 60)))
        plan = {"a": 0, "b": 0}
        for delays, found in (
            ({"a": 5, "b": 60}, ["a", "b"]), ({"a": 6, "b": 60}, ["b"]), ({"a": 60}, ["b"]), ({"b": 60}, ["a", "b"]),
        ):
            with self.subTest(delays):
                self.assertEqual(whole(book, listing, plan, delays), found)

    def test_padding_ahead_does_not_help(self):
        listing = late_listing(a=("news", 1, 10, 20, 1))
        self.assertEqual(whole(Book((Rule("news", 1, 1, 1, 60),)), listing, {"a": 0}, {"a": 1}), [])

    def test_a_window_from_minute_0_on(self):
        listing = late_listing(a=("news", 1, 0, 20, 1), b=("news", 2, 30, 40))
        self.assertEqual(whole(Book((Rule("news", 1, 9, 1, 60),)), listing, {"b": 0, "a": 0}, {}), ["a", "b"])

    def test_ascending(self):
        listing = late_listing(a=("news", 1, 50, 60), b=("news", 2, 30, 40), c=("news", 3, 0, 10))
        self.assertEqual(whole(Book((Rule("news", 1, 9, 1),)), listing, {"c": 0, "a": 0, "b": 0}, {}), ["a", "b", "c"])

    def test_a_name_that_the_listing_does_not_have(self):
        for name in ("dog", "", "Ant"):
            with self.subTest(name):
                self.assert_delay(name, {name: 0})
                self.assert_delay(name, {"cat": 0, name: 0})

    def test_minutes_out_of_range(self):
        self.assert_delay("ant", {"ant": -1})
        self.assert_delay("ant", {"ant": 4})
        self.assert_delay("cat", {"cat": 1})
        for minutes in (*ODD_VALUES, "1"):
            with self.subTest(minutes):
                self.assert_delay("ant", {"ant": minutes})

    def test_the_least_name_is_named(self):
        self.assert_delay("bee", {"dog": 1, "cat": 1, "bee": 2, "ant": 3})
        self.assert_delay("cat", {"dog": 1, "cat": 1, "bee": 1, "ant": 3})
        self.assert_delay("dog", {"eel": 9, "dog": 1, "cat": 0, "bee": 1, "ant": 3})
        self.assert_delay("aaa", {"ant": 9, "aaa": 0})

    def test_delays_of_what_is_not_in_the_plan(self):
        self.assert_delay("cat", {"cat": 1}, {})
        self.assertEqual(whole(document_book(), document_listing(), {"cat": 0}, {"ant": 3, "bee": 1}), ["cat"])

    def test_the_dicts_stay_as_they_were(self):
        plan, delays = {"bee": 1, "ant": 0}, {"bee": 1, "ant": 3}
        whole(document_book(), document_listing(), plan, delays)
        self.assertEqual(list(plan.items()), [("bee", 1), ("ant", 0)])
        self.assertEqual(list(delays.items()), [("bee", 1), ("ant", 3)])

    def test_the_list_is_new(self):
        book, listing = document_book(), document_listing()
        whole(book, listing, {"ant": 0}, {}).clear()
        self.assertEqual(whole(book, listing, {"ant": 0}, {}), ["ant"])


class SurelyWholeTest(unittest.TestCase):
    def test_the_document(self):
        self.assertEqual(surely_whole(document_book(), document_listing(), {"ant": 0, "cat": 0}), ["cat"])

    def test_no_recording(self):
        self.assertEqual(surely_whole(document_book(), document_listing(), {}), [])

    def test_as_late_as_can_be(self):
        listing = late_listing(a=("news", 1, 0, 10, 4), b=("news", 2, 0, 10, 5), c=("news", 3, 0, 10, 6))
        book = Book((Rule("news", 1, 9, 1, 60, 5),))
        self.assertEqual(surely_whole(book, listing, {"c": 0, "b": 1, "a": 2}), ["a", "b"])

    def test_padding_of_60(self):
        listing = late_listing(a=("news", 1, 0, 10, 60))
        self.assertEqual(surely_whole(Book((Rule("news", 1, 9, 1, 0, 60),)), listing, {"a": 0}), ["a"])
        self.assertEqual(surely_whole(Book((Rule("news", 1, 9, 1, 60, 59),)), listing, {"a": 0}), [])

    def test_whatever_the_delays_are(self):
        listing = late_listing(a=("news", 1, 3, 10, 3), b=("news", 2, 0, 10, 2), c=("quiz", 1, 0, 10, 2))
        plan = {"a": 0, "b": 1, "c": 2}
        for after in range(5):
            book = Book((Rule("news", 1, 9, 1, 5, after), Rule("quiz", 1, 9, 1, 0, 1)))
            always = set(plan)
            for minutes in itertools.product(range(4), range(3), range(3)):
                always &= set(whole(book, listing, plan, dict(zip("abc", minutes))))
            self.assertEqual(surely_whole(book, listing, plan), sorted(always))

    def test_the_plan_stays_as_it_was_and_the_list_is_new(self):
        book, listing, plan = document_book(), document_listing(), {"cat": 1, "bee": 0}
        surely_whole(book, listing, plan).clear()
        self.assertEqual(list(plan.items()), [("cat", 1), ("bee", 0)])
        self.assertEqual(surely_whole(book, listing, plan), ["cat"])


class LeastMoreTest(unittest.TestCase):
    def test_the_document(self):
        self.assertEqual(least_more(document_book(), document_listing(), 2), 1)

    def test_nothing_is_late(self):
        listing = late_listing(a=("news", 1, 0, 10), b=("quiz", 1, 5, 10, 9))
        self.assertEqual(least_more(Book((Rule("news", 1, 9, 1),)), listing, 1), 0)
        self.assertEqual(least_more(Book(()), listing, 1), 0)
        self.assertEqual(least_more(document_book(), Listing({}), 1), 0)

    def test_only_the_own_plan_counts(self):
        listing = late_listing(a=("news", 1, 0, 10, 2), b=("news", 1, 20, 30, 60), c=("quiz", 1, 5, 15, 50))
        book = Book((Rule("news", 1, 9, 2), Rule("quiz", 1, 9, 1)))
        self.assertEqual(least_more(book, listing, 1), 2)
        self.assertEqual(least_more(book, listing, 2), 50)

    def test_the_greatest_need_of_all(self):
        listing = late_listing(a=("news", 1, 0, 10, 7), b=("quiz", 1, 100, 110, 9), c=("film", 1, 200, 210, 60))
        book = Book((Rule("news", 1, 9, 2, 0, 1), Rule("quiz", 1, 9, 1, 0, 4), Rule("film", 1, 9, 1, 0, 60)))
        self.assertEqual(least_more(book, listing, 1), 6)

    def test_60_minutes_more(self):
        listing = late_listing(a=("news", 1, 0, 10, 60))
        self.assertEqual(least_more(Book((Rule("news", 1, 9, 2),)), listing, 1), 60)

    def test_padding_of_60_cannot_be_greater(self):
        # "b" is lost as soon as the window of "a" ends behind minute 70.
        listing = late_listing(a=("news", 1, 0, 10, 60), b=("quiz", 1, 70, 80, 5))
        book = Book((Rule("news", 1, 9, 2, 0, 60), Rule("quiz", 1, 9, 1, 0, 2)))
        self.assertEqual(least_more(book, listing, 1), 3)
        book = Book((Rule("news", 1, 9, 2, 0, 58), Rule("quiz", 1, 9, 1, 0, 2)))
        self.assertEqual(least_more(book, listing, 1), 3)

    def test_no_more_are_lost(self):
        listing = late_listing(a=("news", 1, 0, 10, 5), b=("quiz", 1, 13, 20))
        book = Book((Rule("news", 1, 9, 2), Rule("quiz", 1, 9, 1)))
        self.assertIsNone(least_more(book, listing, 1))
        self.assertEqual(least_more(book, listing, 2), 5)

    def test_a_window_may_touch(self):
        listing = late_listing(a=("news", 1, 0, 10, 5), b=("quiz", 1, 15, 20))
        self.assertEqual(least_more(Book((Rule("news", 1, 9, 2), Rule("quiz", 1, 9, 1))), listing, 1), 5)

    def test_others_may_be_lost_by_their_number(self):
        # With 5 minutes more "b" is lost, but "c" no more.
        listing = late_listing(a=("news", 1, 0, 10, 5), b=("quiz", 1, 13, 20), c=("film", 1, 18, 25))
        book = Book((Rule("news", 1, 9, 3), Rule("quiz", 1, 9, 2), Rule("film", 1, 9, 1)))
        self.assertEqual(own_plan(book, listing, 1), {"a": 0, "b": 0})
        self.assertEqual(least_more(book, listing, 1), 5)

    def test_more_minutes_may_make_another_sending_the_recorded_one(self):
        # From 2 minutes on "b" gives way to "c", which is never late.
        listing = late_listing(a=("news", 1, 10, 20, 2), b=("quiz", 1, 21, 30, 60), c=("quiz", 1, 90, 95))
        book = Book((Rule("news", 1, 9, 2), Rule("quiz", 1, 9, 1)))
        self.assertEqual(least_more(book, listing, 1), 2)

    def test_what_was_seen_stays_so(self):
        listing = late_listing(a=("news", 1, 0, 10, 60), b=("news", 2, 5, 15, 4))
        self.assertEqual(least_more(Book((Rule("news", 1, 9, 1),), (("news", 1),)), listing, 1), 4)

    def test_padding_ahead_stays_so(self):
        listing = late_listing(a=("news", 1, 0, 10, 1), b=("quiz", 1, 12, 20))
        book = Book((Rule("news", 1, 9, 2), Rule("quiz", 1, 9, 1, 2)))
        self.assertIsNone(least_more(book, listing, 1))
        book = Book((Rule("news", 1, 9, 2), Rule("quiz", 1, 9, 1, 1)))
        self.assertEqual(least_more(book, listing, 1), 1)

    def test_wrong_receivers(self):
        for receivers in WRONG_RECEIVERS:
            with self.subTest(receivers), self.assertRaises(InvalidNumber):
                least_more(document_book(), document_listing(), receivers)
            with self.subTest(receivers), self.assertRaises(InvalidNumber):
                least_more(Book(()), Listing({}), receivers)

    def test_book_and_listing_stay_as_they_were(self):
        book, listing = document_book(), document_listing()
        self.assertEqual([least_more(book, listing, 2), least_more(book, listing, 2)], [1, 1])
        self.assertEqual((book, listing), (document_book(), document_listing()))

    def test_as_the_document_tells_it(self):
        for book, listing, receivers in random_cases(120):
            now = len(reference.taken_up(book, listing, receivers))
            found = []
            for more in range(61):
                rules = [Rule(rule.show, rule.first, rule.last, rule.priority, rule.before, min(60, rule.after + more))
                         for rule in book.rules]
                wider = Book(tuple(rules), book.seen)
                taken = [name for name, _ in reference.taken_up(wider, listing, receivers)]
                afters = {name: wider.rule_of(*reference.episode(listing, name)).after for name in taken}
                if len(taken) >= now and all(listing[name].late <= afters[name] for name in taken):
                    found.append(more)
            self.assertEqual(least_more(book, listing, receivers), (found or [None])[0])


if __name__ == "__main__":
    unittest.main()
