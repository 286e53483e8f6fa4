"""Point 19: wishes of several people."""

import random
import unittest

from fewtuners.books import Book, Rule
from fewtuners.errors import InvalidBooks, InvalidNumber, UnknownName
from fewtuners.listings import Listing
from fewtuners.people import fair_choice, wishers
from tests import reference
from tests.samples import (
    WRONG_RECEIVERS, document_book, document_listing, listing_of, news_listing, random_book, random_cases,
)

NEWS, QUIZ, FILM = [Book((Rule(show, 1, 9, 1),)) for show in ("news", "quiz", "film")]


class WishersTest(unittest.TestCase):
    def assert_index(self, index, *arguments):
        with self.assertRaises(InvalidBooks) as caught:
            wishers(*arguments)
        self.assertEqual(vars(caught.exception), {"index": index})

    def test_the_document(self):
        self.assertEqual(wishers([NEWS, QUIZ], news_listing(), "b"), [1])
        self.assert_index(0, [], Listing({}), "a")

    def test_ascending(self):
        self.assertEqual(wishers([QUIZ, NEWS, NEWS, QUIZ], news_listing(), "b"), [0, 3])
        self.assertEqual(wishers([NEWS, NEWS, NEWS, NEWS], news_listing(), "a"), [0, 1, 2, 3])

    def test_nobody(self):
        self.assertEqual(wishers([FILM, Book(())], news_listing(), "b"), [])

    def test_the_same_book_twice(self):
        self.assertEqual(wishers([QUIZ, QUIZ], news_listing(), "b"), [0, 1])

    def test_what_was_seen(self):
        self.assertEqual(wishers([QUIZ, QUIZ.with_seen((("quiz", 1),))], news_listing(), "b"), [0])

    def test_unknown_name(self):
        for name in ("d", "", "A"):
            with self.subTest(name), self.assertRaises(UnknownName):
                wishers([NEWS], news_listing(), name)

    def test_no_books_and_too_many_go_ahead_of_an_unknown_name(self):
        for name in ("a", "d"):
            self.assert_index(0, [], news_listing(), name)
            self.assert_index(4, [NEWS] * 5, news_listing(), name)
            self.assert_index(4, [NEWS] * 7, news_listing(), name)
        self.assertEqual(wishers([NEWS], news_listing(), "a"), [0])

    def test_the_list_is_new_and_the_books_stay(self):
        books = [NEWS, QUIZ]
        wishers(books, news_listing(), "b").clear()
        self.assertEqual(wishers(books, news_listing(), "b"), [1])
        self.assertEqual(books, [NEWS, QUIZ])


class FairChoiceTest(unittest.TestCase):
    def assert_index(self, index, *arguments):
        with self.assertRaises(InvalidBooks) as caught:
            fair_choice(*arguments)
        self.assertEqual(vars(caught.exception), {"index": index})

    def test_the_document(self):
        self.assertEqual(fair_choice([NEWS, QUIZ], news_listing(), 1), ((1, 1), ("b", "c")))

    def test_a_listing_with_nothing(self):
        self.assertEqual(fair_choice([NEWS, QUIZ, FILM], Listing({}), 1), ((0, 0, 0), ()))

    def test_nobody_wishes_for_anything(self):
        self.assertEqual(fair_choice([Book(())], document_listing(), 1), ((0,), ()))
        self.assertEqual(fair_choice([FILM, Book(())], document_listing(), 1), ((0, 0), ()))

    def test_one_book_by_the_number_of_sendings_not_by_priorities(self):
        listing = listing_of(a=("news", 1, 0, 90), b=("quiz", 1, 0, 10), c=("quiz", 2, 20, 30))
        book = Book((Rule("news", 1, 9, 9), Rule("quiz", 1, 9, 1)))
        self.assertEqual(fair_choice([book], listing, 1), ((2,), ("b", "c")))

    def test_who_gets_least_gets_the_most_there_can_be(self):
        # Two for news alone, or one for each.
        listing = listing_of(a=("news", 1, 0, 10), b=("news", 2, 10, 20), c=("news", 3, 20, 30), d=("quiz", 1, 0, 20))
        self.assertEqual(fair_choice([NEWS, QUIZ], listing, 1), ((1, 1), ("c", "d")))
        self.assertEqual(fair_choice([QUIZ, NEWS], listing, 1), ((1, 1), ("c", "d")))
        self.assertEqual(fair_choice([QUIZ, NEWS], listing, 2), ((1, 3), ("a", "b", "c", "d")))

    def test_then_who_gets_more(self):
        # Who gets nothing at all leaves it to the others; there is no film at first, and it is in the way then.
        listing = listing_of(a=("news", 1, 0, 10), b=("quiz", 1, 0, 5), c=("quiz", 2, 5, 10))
        self.assertEqual(fair_choice([NEWS, FILM, QUIZ], listing, 1), ((0, 0, 2), ("b", "c")))
        listing = listing_of(a=("news", 1, 0, 10), b=("quiz", 1, 0, 5), c=("quiz", 2, 5, 10), d=("film", 1, 3, 8))
        self.assertEqual(fair_choice([NEWS, FILM, QUIZ], listing, 2), ((1, 0, 2), ("a", "b", "c")))

    def test_of_several_the_fewest_sendings(self):
        both = Book((Rule("news", 1, 9, 1), Rule("quiz", 1, 9, 1), Rule("film", 1, 9, 1)))
        listing = listing_of(a=("news", 1, 0, 10), b=("quiz", 1, 10, 20), c=("film", 1, 0, 20))
        one = Book((Rule("news", 1, 9, 1), Rule("film", 1, 9, 1)))
        other = Book((Rule("quiz", 1, 9, 1), Rule("film", 1, 9, 1)))
        self.assertEqual(fair_choice([one, other], listing, 1), ((1, 1), ("c",)))
        self.assertEqual(fair_choice([one, other, both], listing, 1), ((1, 1, 2), ("a", "b")))

    def test_then_the_least_tuple(self):
        listing = listing_of(c=("news", 1, 0, 10), b=("news", 2, 5, 15), a=("quiz", 1, 5, 9), d=("quiz", 1, 30, 40))
        self.assertEqual(fair_choice([NEWS], listing, 1), ((1,), ("b",)))
        self.assertEqual(fair_choice([NEWS, QUIZ], listing, 1), ((1, 1), ("b", "d")))

    def test_the_order_of_the_books(self):
        listing = listing_of(a=("news", 1, 0, 10), b=("news", 2, 10, 20), c=("quiz", 1, 20, 30))
        self.assertEqual(fair_choice([NEWS, QUIZ, FILM], listing, 1), ((2, 1, 0), ("a", "b", "c")))
        self.assertEqual(fair_choice([FILM, QUIZ, NEWS], listing, 1), ((0, 1, 2), ("a", "b", "c")))

    def test_the_same_book_twice(self):
        self.assertEqual(fair_choice([NEWS, NEWS], news_listing(), 1), ((1, 1), ("a",)))
        self.assertEqual(fair_choice([NEWS, QUIZ, NEWS], news_listing(), 1), ((1, 1, 1), ("b", "c")))

    def test_no_episode_twice(self):
        listing = listing_of(a=("news", 1, 0, 10), b=("news", 1, 20, 30))
        self.assertEqual(fair_choice([NEWS], listing, 9), ((1,), ("a",)))

    def test_windows_that_touch(self):
        listing = listing_of(a=("news", 1, 0, 10), b=("quiz", 1, 10, 20), c=("film", 1, 19, 30))
        self.assertEqual(fair_choice([NEWS, QUIZ], listing, 1), ((1, 1), ("a", "b")))
        self.assertEqual(fair_choice([QUIZ, FILM], listing, 1), ((1, 0), ("b",)))

    def test_a_window_holds_those_of_all_books_that_wish_for_it(self):
        listing = listing_of(a=("news", 1, 10, 20), b=("quiz", 1, 22, 30), c=("quiz", 2, 0, 8))
        quiz = Book((Rule("quiz", 1, 9, 1),))
        late = Book((Rule("news", 1, 9, 1, 0, 3),))
        early = Book((Rule("news", 1, 9, 1, 3, 0),))
        self.assertEqual(fair_choice([late, quiz], listing, 1), ((1, 1), ("a", "c")))
        self.assertEqual(fair_choice([early, quiz], listing, 1), ((1, 1), ("a", "b")))
        self.assertEqual(fair_choice([NEWS, quiz], listing, 1), ((1, 2), ("a", "b", "c")))
        # Together they need minutes ahead and behind, and leave room for neither quiz.
        self.assertEqual(fair_choice([early, late, quiz], listing, 1), ((1, 1, 0), ("a",)))

    def test_a_window_of_who_has_seen_it_does_not_count(self):
        listing = listing_of(a=("news", 1, 10, 20), b=("quiz", 1, 22, 30))
        wide = Book((Rule("news", 1, 9, 1, 0, 60), Rule("quiz", 1, 9, 1)))
        self.assertEqual(fair_choice([NEWS, wide.with_seen((("news", 1),))], listing, 1), ((1, 1), ("a", "b")))
        self.assertEqual(fair_choice([NEWS, wide], listing, 1), ((1, 1), ("a",)))

    def test_no_books_and_too_many_go_ahead(self):
        for receivers in (1, *WRONG_RECEIVERS):
            with self.subTest(receivers):
                self.assert_index(0, [], news_listing(), receivers)
                self.assert_index(4, [NEWS] * 5, news_listing(), receivers)
                self.assert_index(4, [NEWS] * 6, Listing({}), receivers)

    def test_one_and_four_books(self):
        self.assertEqual(fair_choice([NEWS], news_listing(), 1), ((1,), ("a",)))
        self.assertEqual(fair_choice([NEWS] * 4, news_listing(), 1), ((1, 1, 1, 1), ("a",)))

    def test_wrong_receivers(self):
        for receivers in WRONG_RECEIVERS:
            with self.subTest(receivers), self.assertRaises(InvalidNumber):
                fair_choice([NEWS, QUIZ], news_listing(), receivers)
            with self.subTest(receivers), self.assertRaises(InvalidNumber):
                fair_choice([Book(())], Listing({}), receivers)

    def test_the_books_stay(self):
        books = [NEWS, QUIZ]
        told = [fair_choice(books, news_listing(), 1) for _ in range(2)]
        self.assertEqual(told, [((1, 1), ("b", "c"))] * 2)
        self.assertEqual(books, [NEWS, QUIZ])

    def test_one_book_as_in_choices(self):
        for book, listing, receivers in random_cases(40, 7):
            most = max(map(len, reference.choices(book, listing, receivers)))
            best = min(names for names in reference.choices(book, listing, receivers) if len(names) == most)
            self.assertEqual(fair_choice([book], listing, receivers), ((most,), best))

    def test_as_the_document_tells_it(self):
        chance = random.Random(19)
        for book, listing, receivers in random_cases(60, 7):
            books = [book, *[random_book(chance) for _ in range(chance.randint(0, 3))]]
            self.assertEqual(fair_choice(books, listing, receivers), fair_by_hand(books, listing, receivers))
            for name in listing.names:
                wishing = [at for at, one in enumerate(books) if name in reference.windows(one, listing)]
                self.assertEqual(wishers(books, listing, name), wishing)


def fair_by_hand(books, listing, receivers):
    """Return the fair choice as the document tells it, minute by minute."""
    windows = [reference.windows(book, listing) for book in books]
    joint = {}
    for name in listing.names:
        minutes = set().union(*[one.get(name, ()) for one in windows])
        if minutes:
            joint[name] = set(range(min(minutes), max(minutes) + 1))
    rows = []
    for names in reference.subsets(joint):
        if reference.is_choice(joint, listing, receivers, names):
            rows.append((tuple(sum(name in one for name in names) for one in windows), names))
    most = max(sorted(served) for served, _ in rows)
    rows = [row for row in rows if sorted(row[0]) == most]
    return min(rows, key=lambda row: (len(row[1]), row[1]))


if __name__ == "__main__":
    unittest.main()
