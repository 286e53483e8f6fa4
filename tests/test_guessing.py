"""Point 21: which listings to try, to find out which rules there are."""

import itertools
import random
import unittest

from fewtuners.books import Book, Rule
from fewtuners.errors import InvalidLog, InvalidNumber, InvalidPool, InvalidRows, NoFit
from fewtuners.guessing import fewest_listings, next_listing
from fewtuners.listings import Listing
from tests import reference
from tests.samples import WRONG_RECEIVERS, document_listing, listing_of, news_listing, random_book, random_listing

NEWS, QUIZ, FILM = Rule("news", 1, 9, 3), Rule("quiz", 1, 9, 2), Rule("film", 1, 9, 1)
EIGHT = tuple(Rule("news", at, at, 1) for at in range(1, 9))


def sent(*episodes):
    """Return a row in which these episodes of the news are sent, one after another."""
    return (listing_of(**{"abcdefgh"[at - 1]: ("news", at, at, at + 1) for at in episodes}), 1)


class NextListingTest(unittest.TestCase):
    def test_the_document(self):
        pool = (Rule("news", 1, 1, 1), Rule("quiz", 1, 1, 1))
        rows = [(news_listing().only(("a",)), 1), (news_listing().only(("a", "b")), 1)]
        self.assertEqual(next_listing(pool, 1, [], rows), 1)

    def test_no_rows(self):
        self.assertIsNone(next_listing((NEWS,), 1, [], []))
        self.assertIsNone(next_listing((), 0, [], []))

    def test_the_first_of_several(self):
        self.assertEqual(next_listing((NEWS, QUIZ), 1, [], [sent(1), sent(2), sent(1, 2), sent(3)]), 0)
        self.assertEqual(next_listing((NEWS, QUIZ), 1, [], [(Listing({}), 1), sent(2), sent(1)]), 1)

    def test_rows_that_tell_nothing(self):
        self.assertEqual(next_listing((NEWS, QUIZ), 2, [], [(Listing({}), 1)] * 3), 0)
        self.assertEqual(next_listing((), 3, [], [sent(1)]), 0)

    def test_four_rows(self):
        rows = [sent(1), sent(1, 2), sent(1, 2, 3), sent(1, 2, 3, 4)]
        self.assertEqual(next_listing(EIGHT, 1, [], rows), 3)
        self.assertEqual(next_listing(EIGHT[:3], 1, [], rows), 2)

    def test_in_the_worst_case(self):
        # Both rows tell two parts: one of 8 and one of 1, and one of 4 and one of 5.
        halves = (listing_of(a=("news", 1, 0, 30), b=("news", 2, 0, 30), c=("news", 3, 0, 30), d=("news", 4, 0, 30)), 1)
        self.assertEqual(next_listing(EIGHT, 1, [], [sent(8), halves]), 1)

    def test_what_is_recorded_not_on_which_receiver(self):
        listing = listing_of(a=("news", 1, 0, 10), b=("quiz", 1, 0, 10))
        pool = (NEWS, QUIZ, Rule("quiz", 1, 9, 9))
        log = [(listing, 2, ("a", "b"))]
        # By (0, 1) and by (0, 2) the same is recorded, but on other receivers.
        self.assertEqual(next_listing(pool, 2, log, [(listing, 2), (listing, 1)]), 1)
        self.assertEqual(fewest_listings(pool, 2, log, [(listing, 2)]), 0)

    def test_by_what_the_log_tells(self):
        rows = [sent(1, 2), sent(3, 4)]
        self.assertEqual(next_listing(EIGHT[:4], 1, [], rows), 0)
        self.assertEqual(next_listing(EIGHT[:4], 1, [(*sent(1, 2), ())], rows), 1)

    def test_the_receivers_of_a_row(self):
        listing = listing_of(a=("news", 1, 0, 10), b=("quiz", 1, 0, 10))
        log = [(listing.only(("b",)), 1, ("b",))]
        self.assertEqual(next_listing((NEWS, QUIZ), 2, log, [(listing.only(("b",)), 1), (listing, 2)]), 1)
        self.assertEqual(fewest_listings((NEWS, QUIZ), 2, log, [(listing.only(("b",)), 1), (listing, 2)]), 1)


class FewestListingsTest(unittest.TestCase):
    def test_the_document(self):
        pool = (Rule("news", 1, 1, 1), Rule("quiz", 1, 1, 1))
        rows = [(news_listing().only(("a",)), 1), (news_listing().only(("a", "b")), 1)]
        self.assertEqual(fewest_listings(pool, 1, [], rows), 1)

    def test_no_rows(self):
        self.assertEqual(fewest_listings((NEWS, QUIZ), 2, [], []), 0)

    def test_one_possible_tuple(self):
        self.assertEqual(fewest_listings((), 3, [], [sent(1)]), 0)
        self.assertEqual(fewest_listings((NEWS,), 1, [(*sent(1), ("a",))], [sent(1), sent(2)]), 0)

    def test_rows_that_cannot_tell_any_two_apart(self):
        self.assertEqual(fewest_listings((NEWS, QUIZ), 2, [], [(Listing({}), 1)] * 4), 0)
        self.assertEqual(fewest_listings((NEWS, NEWS), 1, [], [sent(1)]), 1)
        self.assertEqual(fewest_listings((NEWS, NEWS), 1, [(*sent(1), ("a",))], [sent(1)] * 4), 0)

    def test_two_rows_for_four_tuples(self):
        rows = [sent(1), sent(2)]
        self.assertEqual(fewest_listings(EIGHT[:2], 2, [], rows), 2)
        self.assertEqual(fewest_listings(EIGHT[:2], 2, [], [*rows, sent(1, 2)]), 1)

    def test_all_four_rows(self):
        rows = [sent(1), sent(2), sent(3), sent(4)]
        self.assertEqual(fewest_listings(EIGHT[:4], 1, [], rows), 4)
        self.assertEqual(fewest_listings(EIGHT[:4], 3, [], rows), 4)

    def test_the_next_row_by_what_was_seen_before(self):
        # By the first row it is seen whether there is news; the second one tells the rest then, or else the third one.
        pool = (NEWS, QUIZ, FILM, Rule("news", 2, 9, 1))
        listing = listing_of(a=("news", 1, 0, 10), b=("quiz", 1, 0, 10), c=("film", 1, 20, 30), d=("news", 2, 20, 30))
        rows = [(listing.only((name,)), 1) for name in listing.names]
        self.assertEqual(fewest_listings(pool, 1, [], rows[:2]), 2)
        self.assertEqual(fewest_listings(pool, 1, [], rows), 3)
        self.assertEqual(fewest_listings(pool, 1, [], [(listing, 4)]), 1)

    def test_none_only_if_no_row_tells_two_tuples_apart(self):
        for book, rows in random_pools(30):
            pool = book.rules
            many = fewest_listings(pool, 2, [], rows)
            self.assertLessEqual(many, len(rows))
            self.assertEqual(many == 0, all(not tells(pool, row) for row in rows))


def tells(pool, row):
    """Return whether a row tells any two tuples of at most two rules apart."""
    return fewest_listings(pool, 2, [], [row]) == 1


def random_pools(many):
    """Return so many tuples of a book and a list of rows."""
    chance = random.Random(21)
    return [(random_book(chance), [(random_listing(chance, 4), chance.randint(1, 2))
                                   for _ in range(chance.randint(0, 4))]) for _ in range(many)]


class ErrorsTest(unittest.TestCase):
    def assert_error(self, error, attributes, *arguments):
        for call in (next_listing, fewest_listings):
            with self.subTest(call.__name__), self.assertRaises(error) as caught:
                call(*arguments)
            self.assertEqual(vars(caught.exception), attributes)

    def test_the_document(self):
        self.assert_error(InvalidRows, {"index": 0}, (), 1, [], [(Listing({}), 0)])

    def test_the_errors_of_possible_books_go_ahead_in_their_order(self):
        bad_log, bad_rows = [(document_listing(), 0, ())], [(document_listing(), 0)]
        for rows in (bad_rows, []):
            self.assert_error(InvalidPool, {}, (NEWS,) * 9, 4, bad_log, rows)
            self.assert_error(InvalidNumber, {}, (NEWS,), 4, bad_log, rows)
            self.assert_error(InvalidNumber, {}, (NEWS,), True, bad_log, rows)
            self.assert_error(InvalidNumber, {}, (NEWS,), -1, [], rows)
            self.assert_error(InvalidLog, {"index": 1}, (NEWS,), 1, [(document_listing(), 1, ()), *bad_log], rows)

    def test_wrong_receivers_of_a_row(self):
        good = (document_listing(), 10)
        for receivers in WRONG_RECEIVERS:
            bad = (document_listing(), receivers)
            for index in range(4):
                self.assert_error(InvalidRows, {"index": index}, (NEWS,), 1, [], [good] * index + [bad, bad])

    def test_the_fifth_row(self):
        good, bad = (document_listing(), 1), (document_listing(), 0)
        self.assert_error(InvalidRows, {"index": 4}, (NEWS,), 1, [], [good] * 5)
        self.assert_error(InvalidRows, {"index": 4}, (NEWS,), 1, [], [good] * 4 + [bad])
        self.assert_error(InvalidRows, {"index": 4}, (NEWS,), 1, [], [good] * 7 + [bad])
        self.assert_error(InvalidRows, {"index": 3}, (NEWS,), 1, [], [good] * 3 + [bad, good, good])

    def test_no_fit_comes_last(self):
        log = [(document_listing(), 1, ("dog",))]
        for rows in ([], [(document_listing(), 1)]):
            self.assert_error(NoFit, {}, (NEWS,), 1, log, rows)
        self.assert_error(InvalidRows, {"index": 0}, (NEWS,), 1, log, [(document_listing(), 11)])
        self.assert_error(InvalidRows, {"index": 4}, (NEWS,), 1, log, [(document_listing(), 1)] * 5)

    def test_what_is_handed_in_stays_as_it_was(self):
        log, rows = [(document_listing(), 1, ("ant",))], [(document_listing(), 1), (document_listing(), 2)]
        for _ in range(2):
            self.assertEqual(next_listing((NEWS, QUIZ), 2, log, rows), 1)
            self.assertEqual(fewest_listings((NEWS, QUIZ), 2, log, rows), 1)
        self.assertEqual(log, [(document_listing(), 1, ("ant",))])
        self.assertEqual(rows, [(document_listing(), 1), (document_listing(), 2)])


class ReferenceTest(unittest.TestCase):
    def seen_by(self, pool, at, row):
        book = Book(tuple(pool[one] for one in at))
        return tuple(sorted(name for name, _ in reference.taken_up(book, *row)))

    def needed(self, pool, possible, rows):
        """Return how many rows are needed, by trying each one that is left, also those that tell nothing."""
        ways = [0] if all(len({self.seen_by(pool, at, row) for at in possible}) == 1 for row in rows) else []
        for row in rows if not ways else []:
            parts = {}
            for at in possible:
                parts.setdefault(self.seen_by(pool, at, row), []).append(at)
            left = [other for other in rows if other is not row]
            ways.append(1 + max(self.needed(pool, part, left) for part in parts.values()))
        return min(ways)

    def test_as_the_document_tells_it(self):
        for book, rows in random_pools(25):
            pool = book.rules[:4]
            possible = [at for many in range(3) for at in itertools.combinations(range(len(pool)), many)]
            worst = []
            for row in rows:
                outcomes = [self.seen_by(pool, at, row) for at in possible]
                worst.append(max(outcomes.count(outcome) for outcome in outcomes))
            expected = worst.index(min(worst)) if rows else None
            self.assertEqual(next_listing(pool, 2, [], rows), expected)
            self.assertEqual(fewest_listings(pool, 2, [], rows), self.needed(pool, possible, rows))


if __name__ == "__main__":
    unittest.main()
