"""Point 22: when the receivers are busy."""

import random
import unittest

from fewtuners.books import Book, Rule
from fewtuners.errors import InvalidNumber, InvalidSpan
from fewtuners.hours import busy_minutes, free_receiver, longest_pause
from fewtuners.listings import Listing
from fewtuners.plans import own_plan
from tests import reference
from tests.samples import (
    WRONG_RECEIVERS, document_book, document_listing, listing_of, news_book, news_listing, random_cases,
)

BOOK = Book((Rule("high", 1, 99, 5), Rule("low", 1, 99, 1)))
LATEST = 1000660

# Spans that are none: from and to.
WRONG_SPANS = ((5, 5), (6, 5), (0, 0), (-1, 5), (0, LATEST + 1), (LATEST, LATEST), (LATEST, LATEST + 1),
               (LATEST + 1, LATEST + 2), (False, 5), (0, True), (None, 5), (0, None), (1.0, 5), ("a", 5), (0, "b"))


class BusyMinutesTest(unittest.TestCase):
    def test_the_document(self):
        self.assertEqual(busy_minutes(news_book(), news_listing(), 1), [25])

    def test_a_number_for_each_receiver(self):
        self.assertEqual(busy_minutes(news_book(), news_listing(), 2), [15, 10])
        self.assertEqual(busy_minutes(news_book(), news_listing(), 4), [15, 10, 0, 0])
        self.assertEqual(busy_minutes(BOOK, Listing({}), 10), [0] * 10)
        self.assertEqual(busy_minutes(Book(()), document_listing(), 2), [0, 0])

    def test_of_windows_with_padding(self):
        self.assertEqual(busy_minutes(document_book(), document_listing(), 2), [32, 25])
        book = Book((Rule("high", 1, 9, 1, 60, 60),))
        self.assertEqual(busy_minutes(book, listing_of(a=("high", 1, 10, 20)), 1), [80])

    def test_several_windows_on_one_receiver(self):
        listing = listing_of(a=("high", 1, 0, 10), b=("high", 2, 10, 30), c=("low", 1, 5, 12), d=("low", 2, 40, 44))
        self.assertEqual(busy_minutes(BOOK, listing, 2), [34, 7])

    def test_the_list_is_new(self):
        book, listing = document_book(), document_listing()
        busy_minutes(book, listing, 2).clear()
        self.assertEqual(busy_minutes(book, listing, 2), [32, 25])
        self.assertEqual((book, listing), (document_book(), document_listing()))

    def test_wrong_receivers(self):
        for receivers in WRONG_RECEIVERS:
            with self.subTest(receivers), self.assertRaises(InvalidNumber):
                busy_minutes(document_book(), document_listing(), receivers)


class SpanTest(unittest.TestCase):
    def test_invalid_span(self):
        for call in (free_receiver, longest_pause):
            for begin, end in WRONG_SPANS:
                with self.subTest(call=call.__name__, begin=begin, end=end), self.assertRaises(InvalidSpan):
                    call(Book(()), Listing({}), 1, begin, end)

    def test_invalid_number_goes_ahead(self):
        for call in (free_receiver, longest_pause):
            for receivers in WRONG_RECEIVERS:
                for begin, end in ((0, 5), (5, 5)):
                    with self.subTest(call=call.__name__, begin=begin, end=end), self.assertRaises(InvalidNumber):
                        call(document_book(), document_listing(), receivers, begin, end)

    def test_the_least_and_the_greatest_minutes(self):
        for begin, end in ((0, 1), (LATEST - 1, LATEST), (0, LATEST)):
            with self.subTest(begin=begin, end=end):
                self.assertEqual(free_receiver(Book(()), Listing({}), 1, begin, end), 0)
                self.assertEqual(longest_pause(Book(()), Listing({}), 1, begin, end), (begin, end - begin))

    def test_the_latest_window(self):
        listing = listing_of(a=("high", 1, 10 ** 6, 10 ** 6 + 600))
        book = Book((Rule("high", 1, 1, 1, 0, 60),))
        self.assertIsNone(free_receiver(book, listing, 1, LATEST - 1, LATEST))
        self.assertIsNone(longest_pause(book, listing, 1, LATEST - 1, LATEST))
        self.assertEqual(longest_pause(book, listing, 1, 0, LATEST), (0, 10 ** 6))


class FreeReceiverTest(unittest.TestCase):
    def test_the_document(self):
        self.assertEqual(free_receiver(news_book(), news_listing(), 1, 30, 40), 0)
        self.assertIsNone(free_receiver(news_book(), news_listing(), 1, 29, 31))

    def test_windows_that_touch(self):
        self.assertEqual(free_receiver(news_book(), news_listing(), 1, 0, 15), 0)
        self.assertIsNone(free_receiver(news_book(), news_listing(), 1, 0, 16))
        self.assertEqual(free_receiver(news_book(), news_listing(), 1, 50, 51), 0)
        self.assertIsNone(free_receiver(news_book(), news_listing(), 1, 49, 51))
        self.assertIsNone(free_receiver(news_book(), news_listing(), 1, 39, 41))

    def test_a_span_of_one_minute(self):
        self.assertIsNone(free_receiver(news_book(), news_listing(), 1, 15, 16))
        self.assertEqual(free_receiver(news_book(), news_listing(), 1, 14, 15), 0)
        self.assertIsNone(free_receiver(news_book(), news_listing(), 1, 20, 21))

    def test_the_least_receiver(self):
        # By two receivers, 0 has "b" from 15 to 30, and 1 has "a" from 10 to 20.
        self.assertEqual(free_receiver(news_book(), news_listing(), 2, 10, 15), 0)
        self.assertEqual(free_receiver(news_book(), news_listing(), 2, 20, 30), 1)
        self.assertIsNone(free_receiver(news_book(), news_listing(), 2, 14, 21))
        self.assertEqual(free_receiver(news_book(), news_listing(), 3, 14, 21), 2)
        self.assertEqual(free_receiver(news_book(), news_listing(), 10, 14, 21), 2)

    def test_a_span_around_a_window(self):
        self.assertIsNone(free_receiver(news_book(), news_listing(), 1, 30, 60))
        self.assertIsNone(free_receiver(news_book(), news_listing(), 1, 0, LATEST))

    def test_padding_counts(self):
        self.assertEqual(free_receiver(document_book(), document_listing(), 1, 32, 40), 0)
        self.assertIsNone(free_receiver(document_book(), document_listing(), 1, 31, 40))


class LongestPauseTest(unittest.TestCase):
    def test_the_document(self):
        self.assertEqual(longest_pause(news_book(), news_listing(), 1, 0, 60), (0, 15))

    def test_no_further_than_the_span_goes(self):
        self.assertEqual(longest_pause(news_book(), news_listing(), 1, 20, 35), (30, 5))
        self.assertEqual(longest_pause(news_book(), news_listing(), 1, 45, 60), (50, 10))
        self.assertEqual(longest_pause(news_book(), news_listing(), 1, 0, 100), (50, 50))
        self.assertEqual(longest_pause(news_book(), news_listing(), 1, 32, 38), (32, 6))
        self.assertEqual(longest_pause(news_book(), news_listing(), 1, 70, 80), (70, 10))

    def test_pauses_at_the_ends_of_the_span(self):
        self.assertEqual(longest_pause(news_book(), news_listing(), 1, 14, 31), (14, 1))
        self.assertEqual(longest_pause(news_book(), news_listing(), 1, 15, 31), (30, 1))

    def test_none(self):
        self.assertIsNone(longest_pause(news_book(), news_listing(), 1, 15, 30))
        self.assertIsNone(longest_pause(news_book(), news_listing(), 1, 20, 21))
        self.assertIsNone(longest_pause(news_book(), news_listing(), 1, 29, 30))

    def test_windows_that_touch_leave_no_pause(self):
        listing = listing_of(a=("high", 1, 0, 10), b=("low", 1, 10, 20))
        self.assertIsNone(longest_pause(BOOK, listing, 1, 0, 20))

    def test_the_first_of_several(self):
        self.assertEqual(longest_pause(news_book(), news_listing(), 1, 5, 60), (5, 10))
        listing = listing_of(a=("high", 1, 10, 20), b=("high", 2, 30, 40))
        self.assertEqual(longest_pause(BOOK, listing, 1, 0, 50), (0, 10))
        self.assertEqual(longest_pause(BOOK, listing, 1, 1, 50), (20, 10))

    def test_on_any_receiver(self):
        self.assertEqual(longest_pause(news_book(), news_listing(), 2, 0, 31), (0, 10))
        listing = listing_of(a=("high", 1, 0, 50), b=("high", 2, 10, 20), c=("high", 3, 60, 65))
        self.assertEqual(longest_pause(BOOK, listing, 2, 0, 70), (50, 10))

    def test_what_is_lost_is_no_window(self):
        self.assertEqual(longest_pause(news_book(), news_listing(), 1, 10, 16), (10, 5))
        self.assertEqual(longest_pause(news_book(), news_listing(), 2, 9, 16), (9, 1))

    def test_padding_counts(self):
        self.assertEqual(longest_pause(document_book(), document_listing(), 1, 30, 40), (32, 8))
        self.assertIsNone(longest_pause(document_book(), document_listing(), 1, 30, 32))

    def test_repeated_calls(self):
        book, listing = document_book(), document_listing()
        for _ in range(2):
            self.assertEqual(longest_pause(book, listing, 1, 0, 60), (32, 28))
            self.assertEqual(free_receiver(book, listing, 2, 0, 20), 1)
        self.assertEqual((book, listing), (document_book(), document_listing()))


class ReferenceTest(unittest.TestCase):
    def test_as_the_document_tells_it(self):
        """Told minute by minute."""
        chance = random.Random(22)
        for book, listing, receivers in random_cases(150):
            minutes = reference.windows(book, listing)
            plan = own_plan(book, listing, receivers)
            busy = [[minute for name in plan if plan[name] == at for minute in minutes[name]]
                    for at in range(receivers)]
            self.assertEqual(busy_minutes(book, listing, receivers), [len(row) for row in busy])
            begin = chance.randint(0, 60)
            end = begin + chance.choice((1, 2, 5, 20, 60, 100))
            free = [at for at in range(receivers) if not set(busy[at]) & set(range(begin, end))]
            self.assertEqual(free_receiver(book, listing, receivers, begin, end), free[0] if free else None)
            every = {minute for row in busy for minute in row}
            best = (0, 0)
            for first in range(begin, end):
                last = first
                while last < end and last not in every:
                    last += 1
                if last - first > best[1]:
                    best = (first, last - first)
            self.assertEqual(longest_pause(book, listing, receivers, begin, end), best if best[1] else None)


if __name__ == "__main__":
    unittest.main()
