"""Point 17: listings that change."""

import random
import unittest

from fewtuners.books import Book, Rule
from fewtuners.changing import changes, shifted
from fewtuners.errors import InvalidNumber
from fewtuners.listings import Listing
from tests import reference
from tests.samples import (
    WRONG_RECEIVERS, document_book, document_listing, listing_of, news_book, news_listing, random_cases,
    random_listing, sending,
)

BOOK = news_book()


class ChangesTest(unittest.TestCase):
    def test_nothing_changes(self):
        self.assertEqual(changes(Listing({}), Listing({})), [])
        self.assertEqual(changes(document_listing(), document_listing()), [])
        listing = document_listing()
        self.assertEqual(changes(listing, listing), [])

    def test_all_is_gone_or_new(self):
        listing = document_listing()
        self.assertEqual(changes(listing, Listing({})), [("gone", "ant"), ("gone", "bee"), ("gone", "cat")])
        self.assertEqual(changes(Listing({}), listing), [("new", "ant"), ("new", "bee"), ("new", "cat")])

    def test_moved(self):
        one = Listing({"a": sending()})
        for parts in ({"channel": "two"}, {"show": "quiz"}, {"episode": 2}, {"begin": 1}, {"end": 31}, {"late": 1}):
            with self.subTest(parts):
                self.assertEqual(changes(one, Listing({"a": sending(**parts)})), [("moved", "a")])

    def test_another_name_is_another_sending(self):
        self.assertEqual(changes(Listing({"b": sending()}), Listing({"a": sending()})), [("new", "a"), ("gone", "b")])

    def test_ascending_by_names(self):
        one = Listing({"b": sending(), "c": sending(), "e": sending(), "f": sending()})
        other = Listing({"a": sending(), "c": sending(end=50), "d": sending(), "e": sending(), "g": sending()})
        self.assertEqual(changes(one, other), [("new", "a"), ("gone", "b"), ("moved", "c"), ("new", "d"), ("gone", "f"),
                                               ("new", "g")])
        self.assertEqual(changes(other, one), [("gone", "a"), ("new", "b"), ("moved", "c"), ("gone", "d"), ("new", "f"),
                                               ("gone", "g")])

    def test_twenty_names(self):
        one = Listing({name: sending() for name in "acegikmoqs"})
        other = Listing({name: sending() for name in "bdfhjlnprt"})
        words = ["gone", "new"] * 10
        self.assertEqual(changes(one, other), list(zip(words, "abcdefghijklmnopqrst")))

    def test_the_list_is_new(self):
        one, other = document_listing(), Listing({})
        changes(one, other).clear()
        self.assertEqual(len(changes(one, other)), 3)
        self.assertEqual((one, other), (document_listing(), Listing({})))


class ShiftedTest(unittest.TestCase):
    def test_nothing(self):
        listing = document_listing()
        self.assertEqual(shifted(document_book(), listing, listing, 1), ([], []))
        self.assertEqual(shifted(document_book(), Listing({}), Listing({}), 1), ([], []))
        self.assertEqual(shifted(Book(()), listing, Listing({}), 1), ([], []))

    def test_from_nothing_and_to_nothing(self):
        listing = document_listing()
        self.assertEqual(shifted(document_book(), Listing({}), listing, 2), ([("news", 1), ("quiz", 1)], []))
        self.assertEqual(shifted(document_book(), listing, Listing({}), 2), ([], [("news", 1), ("quiz", 1)]))
        self.assertEqual(shifted(document_book(), listing, Listing({}), 1), ([], [("news", 1)]))

    def test_both_ways(self):
        listing = news_listing()
        other = listing.only(("a", "b")).with_sending("d", sending(show="quiz", episode=2, begin=60, end=70))
        self.assertEqual(shifted(BOOK, listing, other, 1), ([("quiz", 2)], [("news", 1)]))
        self.assertEqual(shifted(BOOK, other, listing, 1), ([("news", 1)], [("quiz", 2)]))
        self.assertEqual(shifted(BOOK, listing, other, 2), ([("quiz", 2)], []))

    def test_another_sending_of_the_same_episode(self):
        one = listing_of(a=("news", 1, 0, 10))
        other = listing_of(b=("news", 1, 50, 60))
        self.assertEqual(shifted(BOOK, one, other, 1), ([], []))

    def test_another_episode_by_the_same_name(self):
        one = listing_of(a=("news", 1, 0, 10))
        other = listing_of(a=("news", 2, 0, 10))
        self.assertEqual(shifted(BOOK, one, other, 1), ([("news", 2)], [("news", 1)]))

    def test_what_is_lost_is_not_in_the_plan(self):
        one = listing_of(a=("news", 1, 0, 10))
        other = one.with_sending("b", sending(show="quiz", begin=5, end=15))
        self.assertEqual(shifted(BOOK, one, other, 1), ([("quiz", 1)], [("news", 1)]))
        self.assertEqual(shifted(BOOK, one, other, 2), ([("quiz", 1)], []))

    def test_ascending_by_show_and_number(self):
        book = Book((Rule("news", 1, 99, 2), Rule("quiz", 1, 99, 3), Rule("film", 1, 99, 1)))
        listing = listing_of(a=("quiz", 2, 0, 5), b=("news", 10, 5, 10), c=("news", 9, 10, 15), d=("film", 3, 15, 20))
        episodes = [("film", 3), ("news", 9), ("news", 10), ("quiz", 2)]
        self.assertEqual(shifted(book, Listing({}), listing, 1), (episodes, []))
        self.assertEqual(shifted(book, listing, Listing({}), 1), ([], episodes))

    def test_what_was_seen(self):
        book = document_book().with_seen((("news", 1),))
        self.assertEqual(shifted(book, Listing({}), document_listing(), 1), ([("quiz", 1)], []))

    def test_wrong_receivers(self):
        for receivers in WRONG_RECEIVERS:
            with self.subTest(receivers), self.assertRaises(InvalidNumber):
                shifted(document_book(), document_listing(), document_listing(), receivers)
            with self.subTest(receivers), self.assertRaises(InvalidNumber):
                shifted(Book(()), Listing({}), Listing({}), receivers)

    def test_the_lists_are_new(self):
        for episodes in shifted(document_book(), Listing({}), document_listing(), 2):
            episodes.append("x")
        self.assertEqual(shifted(document_book(), Listing({}), document_listing(), 2), ([("news", 1), ("quiz", 1)], []))

    def test_as_the_document_tells_it(self):
        chance = random.Random(17)
        for book, one, receivers in random_cases(200):
            other = random_listing(chance)
            before, after = [
                {reference.episode(listing, name) for name, _ in reference.taken_up(book, listing, receivers)}
                for listing in (one, other)
            ]
            self.assertEqual(shifted(book, one, other, receivers), (sorted(after - before), sorted(before - after)))


if __name__ == "__main__":
    unittest.main()
