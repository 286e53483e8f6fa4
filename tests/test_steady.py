"""Point 18: the best choice that keeps the most of some names."""

import unittest

from fewtuners.books import Book, Rule
from fewtuners.choices import best_choice
from fewtuners.errors import InvalidNumber
from fewtuners.listings import Listing
from fewtuners.steady import steady_choice
from tests import reference
from tests.samples import (
    WRONG_RECEIVERS, document_book, document_listing, listing_of, news_book, news_listing, random_cases,
)

BOOK = Book((Rule("high", 1, 99, 5), Rule("mid", 1, 99, 3), Rule("low", 1, 99, 1)))


class SteadyChoiceTest(unittest.TestCase):
    def test_the_document(self):
        book, listing = news_book(), news_listing()
        self.assertEqual(steady_choice(book, listing, 1, ("a",)), (1, 2, ("a",)))
        self.assertEqual(steady_choice(book, listing, 2, ("a",)), (1, 5, ("a", "b")))

    def test_a_listing_with_nothing(self):
        self.assertEqual(steady_choice(BOOK, Listing({}), 1, ()), (0, 0, ()))
        self.assertEqual(steady_choice(BOOK, Listing({}), 1, ("a",)), (0, 0, ()))
        self.assertEqual(steady_choice(Book(()), document_listing(), 1, ("ant",)), (0, 0, ()))

    def test_no_names(self):
        self.assertEqual(steady_choice(document_book(), document_listing(), 1, ()), (0, 8, ("bee", "cat")))

    def test_names_that_are_not_there_count_for_nothing(self):
        book, listing = document_book(), document_listing()
        self.assertEqual(steady_choice(book, listing, 1, ("dog", "", "Ant")), (0, 8, ("bee", "cat")))
        self.assertEqual(steady_choice(book, listing, 1, ("ant", "dog")), (1, 5, ("ant",)))

    def test_names_that_are_not_wished_for_count_for_nothing(self):
        book = Book((Rule("quiz", 1, 1, 3),))
        self.assertEqual(steady_choice(book, document_listing(), 1, ("ant", "cat")), (0, 3, ("bee",)))
        seen = document_book().with_seen((("news", 1),))
        self.assertEqual(steady_choice(seen, document_listing(), 1, ("ant", "cat")), (0, 3, ("bee",)))

    def test_names_that_it_cannot_have_together(self):
        book, listing = document_book(), document_listing()
        self.assertEqual(steady_choice(book, listing, 1, ("ant", "bee", "cat")), (2, 8, ("bee", "cat")))
        self.assertEqual(steady_choice(book, listing, 2, ("ant", "bee", "cat")), (2, 8, ("ant", "bee")))
        self.assertEqual(steady_choice(book, listing, 2, ("ant", "cat")), (1, 8, ("ant", "bee")))

    def test_a_name_that_is_told_twice(self):
        self.assertEqual(steady_choice(document_book(), document_listing(), 1, ("ant", "ant")), (1, 5, ("ant",)))

    def test_in_any_order(self):
        self.assertEqual(steady_choice(document_book(), document_listing(), 2, ("bee", "ant")), (2, 8, ("ant", "bee")))

    def test_the_most_names_go_ahead_of_the_greatest_sum(self):
        listing = listing_of(a=("high", 1, 0, 90), b=("low", 1, 0, 10), c=("low", 2, 20, 30), d=("low", 3, 40, 50))
        self.assertEqual(steady_choice(BOOK, listing, 1, ("b", "c")), (2, 3, ("b", "c", "d")))
        self.assertEqual(steady_choice(BOOK, listing, 1, ("a", "c")), (1, 5, ("a",)))

    def test_then_the_greatest_sum(self):
        listing = listing_of(a=("low", 1, 0, 10), b=("low", 2, 5, 15), c=("mid", 1, 10, 20))
        self.assertEqual(steady_choice(BOOK, listing, 1, ("a", "b")), (1, 4, ("a", "c")))
        listing = listing_of(a=("low", 1, 10, 20), b=("low", 2, 5, 15), c=("mid", 1, 15, 20))
        self.assertEqual(steady_choice(BOOK, listing, 1, ("a", "b")), (1, 4, ("b", "c")))

    def test_then_the_most_sendings(self):
        listing = listing_of(a=("mid", 1, 0, 90), b=("low", 1, 0, 10), c=("low", 2, 20, 30), d=("low", 3, 40, 50),
                             e=("mid", 2, 100, 110))
        self.assertEqual(steady_choice(BOOK, listing, 1, ("e",)), (1, 6, ("b", "c", "d", "e")))
        self.assertEqual(steady_choice(BOOK, listing, 1, ("a", "e")), (2, 6, ("a", "e")))

    def test_then_the_least_tuple(self):
        listing = listing_of(b=("mid", 1, 0, 10), a=("mid", 2, 5, 9), c=("mid", 3, 20, 30))
        self.assertEqual(steady_choice(BOOK, listing, 1, ("c",)), (1, 6, ("a", "c")))
        self.assertEqual(steady_choice(BOOK, listing, 1, ("a", "b")), (1, 6, ("a", "c")))

    def test_windows_that_touch(self):
        listing = listing_of(a=("low", 1, 0, 10), b=("low", 2, 10, 20), c=("low", 3, 19, 30))
        self.assertEqual(steady_choice(BOOK, listing, 1, ("b", "c")), (1, 2, ("a", "b")))

    def test_wrong_receivers(self):
        for receivers in WRONG_RECEIVERS:
            with self.subTest(receivers), self.assertRaises(InvalidNumber):
                steady_choice(document_book(), document_listing(), receivers, ("ant",))
            with self.subTest(receivers), self.assertRaises(InvalidNumber):
                steady_choice(Book(()), Listing({}), receivers, ())

    def test_repeated_calls(self):
        book, listing = document_book(), document_listing()
        told = [steady_choice(book, listing, 1, ("ant",)) for _ in range(2)]
        self.assertEqual(told, [(1, 5, ("ant",))] * 2)
        self.assertEqual((book, listing), (document_book(), document_listing()))

    def test_as_the_document_tells_it(self):
        for book, listing, receivers in random_cases(60, 8):
            names = (*listing.names[::2], "zz")
            rows = []
            for chosen in reference.choices(book, listing, receivers):
                total = sum(reference.priority(book, listing, name) for name in chosen)
                rows.append((len(set(chosen) & set(names)), total, len(chosen), chosen))
            most = max(row[:3] for row in rows)
            best = min(row[3] for row in rows if row[:3] == most)
            self.assertEqual(steady_choice(book, listing, receivers, names), (most[0], most[1], best))
            self.assertEqual(steady_choice(book, listing, receivers, ())[1:], best_choice(book, listing, receivers))


if __name__ == "__main__":
    unittest.main()
