"""The examples in the document's interface."""

import unittest

from fewtuners.errors import InvalidSending
from fewtuners.listings import Sending
from fewtuners.wishing import overlaps, sendings_of, window, wishes
from tests.samples import document_book, document_listing


class ExamplesTest(unittest.TestCase):
    def test_listings(self):
        listing = document_listing()
        self.assertEqual(
            [listing.names, listing["bee"].end, listing.only(("cat", "ant")).names, "dog" in listing],
            [("ant", "bee", "cat"), 50, ("ant", "cat"), False],
        )

    def test_a_sending_without_minutes(self):
        with self.assertRaises(InvalidSending) as caught:
            Sending("one", "news", 1, 30, 30)
        self.assertEqual(vars(caught.exception), {"part": "end"})

    def test_wishing(self):
        book, listing = document_book(), document_listing()
        told = [wishes(book, listing), sendings_of(book, listing, ("news", 1))]
        self.assertEqual(
            told + [window(book, listing, "ant"), overlaps(book, listing, "ant")],
            [[("news", 1), ("quiz", 1)], ["ant", "cat"], (0, 32), ["bee"]],
        )


if __name__ == "__main__":
    unittest.main()
