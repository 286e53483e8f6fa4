"""Points 5 and 6: wishes, windows and overlaps."""

import unittest

from fewtuners.books import Book, Rule
from fewtuners.errors import NotWished, UnknownEpisode, UnknownName
from fewtuners.listings import Listing
from fewtuners.wishing import overlaps, sendings_of, window, wishes
from tests.samples import document_book, document_listing, listing_of


class WishesTest(unittest.TestCase):
    def test_none(self):
        listing = listing_of(a=("news", 1, 0, 10))
        self.assertEqual(wishes(Book(()), listing), [])
        self.assertEqual(wishes(Book((Rule("news", 1, 9, 1),)), Listing({})), [])
        self.assertEqual(wishes(Book((Rule("news", 2, 9, 1), Rule("quiz", 1, 9, 1))), listing), [])

    def test_greater_priority_first(self):
        book = Book((Rule("low", 1, 9, 1), Rule("high", 1, 9, 9), Rule("mid", 1, 9, 5)))
        listing = listing_of(a=("low", 1, 0, 10), b=("mid", 1, 20, 30), c=("high", 1, 40, 50))
        self.assertEqual(wishes(book, listing), [("high", 1), ("mid", 1), ("low", 1)])

    def test_the_priority_is_that_of_the_first_rule(self):
        book = Book((Rule("news", 1, 1, 1), Rule("news", 1, 9, 9), Rule("quiz", 1, 9, 5)))
        listing = listing_of(a=("news", 1, 0, 10), b=("news", 2, 50, 60), c=("quiz", 1, 20, 30))
        self.assertEqual(wishes(book, listing), [("news", 2), ("quiz", 1), ("news", 1)])

    def test_then_by_the_beginning_of_the_first_sending(self):
        book = Book((Rule("news", 1, 9, 3), Rule("quiz", 1, 9, 3)))
        listing = listing_of(
            a=("news", 1, 50, 60), b=("news", 2, 40, 90), c=("quiz", 3, 45, 46), z=("news", 1, 30, 35),
        )
        self.assertEqual(wishes(book, listing), [("news", 1), ("news", 2), ("quiz", 3)])

    def test_the_beginning_is_not_that_of_the_window(self):
        book = Book((Rule("news", 1, 9, 3, 60), Rule("quiz", 1, 9, 3)))
        listing = listing_of(a=("news", 1, 100, 110), b=("quiz", 1, 90, 120))
        self.assertEqual(wishes(book, listing), [("quiz", 1), ("news", 1)])

    def test_then_by_show_and_number(self):
        book = Book((Rule("quiz", 1, 99, 3), Rule("news", 1, 99, 3)))
        listing = listing_of(
            a=("quiz", 1, 5, 10), b=("news", 10, 5, 90), c=("news", 9, 5, 20), d=("news", 2, 5, 7),
        )
        self.assertEqual(wishes(book, listing), [("news", 2), ("news", 9), ("news", 10), ("quiz", 1)])

    def test_each_once(self):
        book = Book((Rule("news", 1, 9, 3), Rule("news", 1, 9, 4)))
        listing = listing_of(a=("news", 1, 0, 10), b=("news", 1, 0, 10), c=("news", 2, 5, 9), d=("news", 1, 20, 30))
        self.assertEqual(wishes(book, listing), [("news", 1), ("news", 2)])

    def test_not_what_was_seen(self):
        listing = listing_of(a=("news", 1, 0, 10), b=("news", 2, 5, 9), c=("news", 1, 20, 30))
        self.assertEqual(wishes(Book((Rule("news", 1, 9, 3),), (("news", 1),)), listing), [("news", 2)])

    def test_the_list_is_new(self):
        book, listing = document_book(), document_listing()
        wishes(book, listing).clear()
        self.assertEqual(wishes(book, listing), [("news", 1), ("quiz", 1)])
        self.assertEqual(wishes(book, listing), wishes(book, listing))


class SendingsOfTest(unittest.TestCase):
    def test_by_beginnings_then_by_names(self):
        book = Book((Rule("news", 1, 9, 3), Rule("quiz", 1, 9, 3)))
        listing = listing_of(
            a=("news", 1, 50, 60), b=("news", 1, 9, 99), c=("news", 1, 9, 20), d=("news", 2, 0, 5),
            e=("quiz", 1, 0, 5), f=("news", 1, 0, 5),
        )
        self.assertEqual(sendings_of(book, listing, ("news", 1)), ["f", "b", "c", "a"])
        self.assertEqual(sendings_of(book, listing, ("news", 2)), ["d"])

    def test_no_sending(self):
        for episode in (("news", 2), ("quiz", 2), ("show", 1), ("", 0)):
            with self.subTest(episode), self.assertRaises(UnknownEpisode):
                sendings_of(document_book(), document_listing(), episode)
        with self.assertRaises(UnknownEpisode):
            sendings_of(document_book(), Listing({}), ("news", 1))

    def test_no_rule(self):
        book = Book((Rule("news", 2, 9, 3), Rule("quiz", 1, 9, 3)))
        with self.assertRaises(UnknownEpisode):
            sendings_of(book, document_listing(), ("news", 1))
        self.assertEqual(sendings_of(book, document_listing(), ("quiz", 1)), ["bee"])

    def test_seen(self):
        book = document_book().with_seen((("news", 1),))
        with self.assertRaises(UnknownEpisode):
            sendings_of(book, document_listing(), ("news", 1))
        self.assertEqual(sendings_of(book, document_listing(), ("quiz", 1)), ["bee"])

    def test_the_list_is_new(self):
        book, listing = document_book(), document_listing()
        sendings_of(book, listing, ("news", 1)).clear()
        self.assertEqual(sendings_of(book, listing, ("news", 1)), ["ant", "cat"])


class WindowTest(unittest.TestCase):
    def test_without_padding(self):
        self.assertEqual(window(Book((Rule("news", 1, 9, 3),)), document_listing(), "cat"), (100, 130))

    def test_with_padding(self):
        self.assertEqual(window(Book((Rule("news", 1, 9, 3, 7, 60),)), document_listing(), "cat"), (93, 190))

    def test_at_least_minute_0(self):
        listing = listing_of(a=("news", 1, 0, 10), b=("news", 1, 4, 10), c=("news", 1, 5, 10), d=("news", 1, 6, 10))
        book = Book((Rule("news", 1, 9, 3, 5),))
        self.assertEqual([window(book, listing, name)[0] for name in listing.names], [0, 0, 0, 1])

    def test_after_the_end_of_all(self):
        listing = listing_of(a=("news", 1, 10 ** 6, 10 ** 6 + 600))
        self.assertEqual(window(Book((Rule("news", 1, 9, 3, 60, 60),)), listing, "a"), (10 ** 6 - 60, 10 ** 6 + 660))

    def test_padding_of_the_first_rule(self):
        book = Book((Rule("news", 2, 9, 3, 1, 1), Rule("news", 1, 9, 3, 2, 3), Rule("news", 1, 9, 9, 9, 9)))
        self.assertEqual(window(book, document_listing(), "cat"), (98, 133))

    def test_unknown_name(self):
        for name in ("dog", "", "Ant"):
            with self.subTest(name), self.assertRaises(UnknownName):
                window(document_book(), document_listing(), name)

    def test_unknown_name_goes_ahead_of_not_wished(self):
        with self.assertRaises(UnknownName):
            window(Book(()), document_listing(), "dog")

    def test_not_wished(self):
        with self.assertRaises(NotWished):
            window(Book((Rule("quiz", 1, 9, 3),)), document_listing(), "ant")
        with self.assertRaises(NotWished):
            window(document_book().with_seen((("news", 1),)), document_listing(), "ant")


class OverlapsTest(unittest.TestCase):
    book = Book((Rule("news", 1, 9, 3), Rule("quiz", 1, 9, 3)))

    def test_alone(self):
        self.assertEqual(overlaps(self.book, listing_of(a=("news", 1, 0, 10)), "a"), [])

    def test_windows_that_touch(self):
        listing = listing_of(a=("news", 1, 10, 20), b=("news", 2, 0, 10), c=("news", 3, 20, 30))
        self.assertEqual([overlaps(self.book, listing, name) for name in listing.names], [[], [], []])

    def test_windows_that_overlap_by_a_minute(self):
        listing = listing_of(a=("news", 1, 10, 20), b=("news", 2, 0, 11), c=("news", 3, 19, 30))
        self.assertEqual([overlaps(self.book, listing, name) for name in listing.names], [["b", "c"], ["a"], ["a"]])

    def test_windows_inside_of_each_other(self):
        listing = listing_of(a=("news", 1, 10, 20), b=("news", 2, 14, 15), c=("news", 3, 0, 90), d=("quiz", 1, 10, 20))
        self.assertEqual(overlaps(self.book, listing, "a"), ["b", "c", "d"])
        self.assertEqual(overlaps(self.book, listing, "b"), ["a", "c", "d"])
        self.assertEqual(overlaps(self.book, listing, "c"), ["a", "b", "d"])

    def test_by_windows_with_padding(self):
        listing = listing_of(a=("news", 1, 10, 20), b=("quiz", 1, 24, 30))
        for news, quiz, found in (((0, 2), (2, 0), []), ((0, 3), (2, 0), ["b"]), ((0, 2), (3, 0), ["b"])):
            with self.subTest(news=news, quiz=quiz):
                book = Book((Rule("news", 1, 9, 3, *news), Rule("quiz", 1, 9, 3, *quiz)))
                self.assertEqual(overlaps(book, listing, "a"), found)

    def test_other_sendings_of_the_same_episode(self):
        listing = listing_of(a=("news", 1, 10, 20), b=("news", 1, 10, 20), c=("news", 1, 15, 25))
        self.assertEqual(overlaps(self.book, listing, "b"), ["a", "c"])

    def test_ascending(self):
        listing = listing_of(d=("news", 1, 10, 20), z=("news", 2, 10, 20), c=("news", 3, 12, 20), a=("news", 4, 15, 20))
        self.assertEqual(overlaps(self.book, listing, "d"), ["a", "c", "z"])

    def test_not_what_is_not_wished_for(self):
        listing = listing_of(a=("news", 1, 10, 20), b=("show", 1, 10, 20), c=("news", 10, 10, 20), d=("quiz", 1, 10, 20))
        self.assertEqual(overlaps(self.book, listing, "a"), ["d"])
        self.assertEqual(overlaps(self.book.with_seen((("quiz", 1),)), listing, "a"), [])

    def test_unknown_name(self):
        for book in (self.book, Book(())):
            for name in ("dog", "", "Ant"):
                with self.subTest(name), self.assertRaises(UnknownName):
                    overlaps(book, document_listing(), name)

    def test_not_wished(self):
        with self.assertRaises(NotWished):
            overlaps(Book((Rule("quiz", 1, 9, 3),)), document_listing(), "ant")
        with self.assertRaises(NotWished):
            overlaps(self.book.with_seen((("news", 1),)), document_listing(), "ant")

    def test_the_list_is_new(self):
        book, listing = document_book(), document_listing()
        overlaps(book, listing, "ant").clear()
        self.assertEqual(overlaps(book, listing, "ant"), ["bee"])


class DocumentTest(unittest.TestCase):
    def test_the_books_and_listings_asked_stay_as_they_were(self):
        book, listing = document_book(), document_listing()
        wishes(book, listing)
        sendings_of(book, listing, ("news", 1))
        window(book, listing, "ant")
        overlaps(book, listing, "ant")
        self.assertEqual((book, listing), (document_book(), document_listing()))


if __name__ == "__main__":
    unittest.main()
