"""Point 25: what each receiver records, as a text."""

import unittest

from fewtuners.books import Book, Rule
from fewtuners.errors import InvalidNumber
from fewtuners.listings import Listing
from fewtuners.tables import table
from tests import reference
from tests.samples import (
    WRONG_RECEIVERS, document_book, document_listing, listing_of, news_book, news_listing, random_cases,
)


class TableTest(unittest.TestCase):
    def test_the_document(self):
        self.assertEqual(table(news_book(), news_listing(), 2), "0: b 15-30\n1: a 10-20")
        self.assertEqual(table(news_book(), Listing({}), 1), "0: -")

    def test_receivers_without_recordings(self):
        self.assertEqual(table(news_book(), news_listing(), 4), "0: b 15-30\n1: a 10-20\n2: -\n3: -")
        self.assertEqual(table(Book(()), document_listing(), 2), "0: -\n1: -")
        self.assertEqual(table(Book(()), Listing({}), 10), "\n".join(f"{at}: -" for at in range(10)))

    def test_several_recordings_on_one_receiver(self):
        self.assertEqual(table(news_book(), news_listing(), 1), "0: b 15-30, c 40-50")
        listing = listing_of(d=("news", 1, 0, 10), c=("news", 2, 10, 20), b=("news", 3, 90, 95), a=("news", 4, 30, 90))
        self.assertEqual(table(news_book(), listing, 1), "0: d 0-10, c 10-20, a 30-90, b 90-95")

    def test_windows_not_sendings(self):
        self.assertEqual(table(document_book(), document_listing(), 2), "0: ant 0-32\n1: bee 25-50")
        book = Book((Rule("news", 1, 9, 1, 60, 60),))
        self.assertEqual(table(book, listing_of(a=("news", 1, 10, 20)), 1), "0: a 0-80")
        listing = listing_of(a=("news", 1, 10 ** 6, 10 ** 6 + 600))
        self.assertEqual(table(book, listing, 1), "0: a 999940-1000660")

    def test_by_the_beginnings_of_windows_not_by_those_of_sendings(self):
        book = Book((Rule("news", 1, 9, 1, 0, 5), Rule("quiz", 1, 9, 1, 20)))
        listing = listing_of(a=("news", 1, 30, 40), b=("quiz", 1, 25, 30))
        self.assertEqual(table(book, listing, 1), "0: b 5-30, a 30-45")

    def test_wrong_receivers(self):
        for receivers in WRONG_RECEIVERS:
            with self.subTest(receivers), self.assertRaises(InvalidNumber):
                table(document_book(), document_listing(), receivers)
            with self.subTest(receivers), self.assertRaises(InvalidNumber):
                table(Book(()), Listing({}), receivers)

    def test_repeated_calls(self):
        book, listing = document_book(), document_listing()
        self.assertEqual(table(book, listing, 1), table(book, listing, 1))
        self.assertEqual((book, listing), (document_book(), document_listing()))

    def test_as_the_document_tells_it(self):
        for book, listing, receivers in random_cases(150):
            minutes = reference.windows(book, listing)
            taken = reference.taken_up(book, listing, receivers)
            lines = []
            for receiver in range(receivers):
                names = sorted((name for name, at in taken if at == receiver), key=lambda name: min(minutes[name]))
                words = [f"{name} {min(minutes[name])}-{max(minutes[name]) + 1}" for name in names]
                lines.append(f"{receiver}: " + (", ".join(words) or "-"))
            self.assertEqual(table(book, listing, receivers), "\n".join(lines))


if __name__ == "__main__":
    unittest.main()
