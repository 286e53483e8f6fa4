"""Point 16: what tells books apart, and by which rules a log can have come about."""

import itertools
import random
import unittest

from fewtuners.books import Book, Rule
from fewtuners.errors import InvalidLog, InvalidNumber, InvalidPool, NoFit
from fewtuners.listings import Listing
from fewtuners.plans import own_plan
from fewtuners.pools import difference, judged, possible_books
from fewtuners.subsets import subsets
from tests import reference
from tests.samples import (
    WRONG_RECEIVERS, document_book, document_listing, listing_of, random_book, random_cases, random_listing,
)

NEWS, QUIZ, FILM = Rule("news", 1, 9, 3), Rule("quiz", 1, 9, 2), Rule("film", 1, 9, 1)


class SubsetsTest(unittest.TestCase):
    def test_shorter_ones_first_then_in_tuple_order(self):
        self.assertEqual(subsets([0, 1, 2], 2), [(), (0,), (1,), (2,), (0, 1), (0, 2), (1, 2)])
        self.assertEqual(subsets(("a", "b"), 5), [(), ("a",), ("b",), ("a", "b")])

    def test_no_items_or_none_of_them(self):
        self.assertEqual(subsets([], 3), [()])
        self.assertEqual(subsets([1, 2], 0), [()])


class DifferenceTest(unittest.TestCase):
    def test_the_document(self):
        other = Book((Rule("quiz", 1, 1, 3), Rule("news", 1, 9, 1, 0, 2)))
        self.assertEqual(difference(document_book(), other, document_listing(), 1), ("ant", "bee"))

    def test_no_difference(self):
        book, listing = document_book(), document_listing()
        self.assertIsNone(difference(book, book, listing, 1))
        self.assertIsNone(difference(book, document_book(), listing, 2))
        self.assertIsNone(difference(book, Book(()), Listing({}), 1))
        self.assertIsNone(difference(Book(()), Book((FILM,)), listing, 1))
        other = Book((Rule("quiz", 1, 1, 2), Rule("news", 1, 9, 9, 0, 60)))
        self.assertIsNone(difference(book, other, listing, 2))

    def test_padding_that_tells_nothing(self):
        self.assertIsNone(difference(Book((NEWS,)), Book((Rule("news", 1, 9, 9, 60, 60),)), document_listing(), 1))

    def test_one_sending(self):
        self.assertEqual(difference(document_book(), Book((QUIZ,)), document_listing(), 1), ("ant",))
        self.assertEqual(difference(document_book(), Book((NEWS,)), document_listing(), 1), ("bee",))
        seen = document_book().with_seen((("quiz", 1),))
        self.assertEqual(difference(document_book(), seen, document_listing(), 1), ("bee",))

    def test_a_shorter_tuple_goes_ahead_of_a_lesser_one(self):
        # ("a", "b") tells the orders of news and quiz apart, and "z" tells whether film is wished for.
        listing = listing_of(a=("news", 1, 0, 10), b=("quiz", 1, 0, 10), z=("film", 1, 50, 60))
        one, other = Book((NEWS, QUIZ)), Book((Rule("news", 1, 9, 1), QUIZ, FILM))
        self.assertEqual(difference(one, other, listing, 1), ("z",))
        self.assertEqual(difference(one, other, listing.only(("a", "b")), 1), ("a", "b"))

    def test_the_least_tuple_of_equally_short_ones(self):
        listing = listing_of(a=("quiz", 1, 0, 10), b=("news", 1, 0, 10), c=("quiz", 2, 0, 10), d=("news", 2, 0, 10))
        self.assertEqual(difference(Book((NEWS, QUIZ)), Book((Rule("news", 1, 9, 1), QUIZ)), listing, 1), ("a", "b"))
        listing = listing_of(a=("quiz", 1, 0, 10), b=("news", 1, 20, 30), c=("quiz", 2, 0, 5), d=("news", 2, 0, 5))
        self.assertEqual(difference(Book((NEWS, QUIZ)), Book((Rule("news", 1, 9, 1), QUIZ)), listing, 1), ("a", "d"))

    def test_four_sendings(self):
        # By the first book news goes ahead of quiz if "n" begins earlier, and only "a" sends it on to "p" then.
        listing = listing_of(a=("film", 1, 0, 10), n=("news", 1, 5, 10), p=("news", 1, 25, 35), q=("quiz", 1, 20, 30))
        one = Book((Rule("film", 1, 9, 9), Rule("news", 1, 9, 1), Rule("quiz", 1, 9, 1)))
        other = Book((Rule("film", 1, 9, 9), Rule("news", 1, 9, 1), Rule("quiz", 1, 9, 2)))
        self.assertEqual([own_plan(book, listing, 1) for book in (one, other)], [{"a": 0, "p": 0}, {"a": 0, "q": 0}])
        self.assertEqual(difference(one, other, listing, 1), ("a", "n", "p", "q"))

    def test_plans_with_other_receivers_are_not_equal(self):
        listing = listing_of(a=("news", 1, 0, 10), b=("quiz", 1, 5, 15))
        one, other = Book((NEWS, QUIZ)), Book((NEWS, Rule("quiz", 1, 9, 4)))
        self.assertEqual([own_plan(book, listing, 2) for book in (one, other)], [{"a": 0, "b": 1}, {"a": 1, "b": 0}])
        self.assertEqual(difference(one, other, listing, 2), ("a", "b"))

    def test_the_plans_of_the_whole_listing_may_be_equal(self):
        listing = listing_of(a=("film", 1, 0, 90), b=("news", 1, 0, 10), c=("quiz", 1, 5, 15))
        one = Book((Rule("film", 1, 9, 9), NEWS, QUIZ))
        other = Book((Rule("film", 1, 9, 9), NEWS, Rule("quiz", 1, 9, 4)))
        self.assertEqual(own_plan(one, listing, 1), own_plan(other, listing, 1))
        self.assertEqual(difference(one, other, listing, 1), ("b", "c"))

    def test_wrong_receivers(self):
        for receivers in WRONG_RECEIVERS:
            with self.subTest(receivers), self.assertRaises(InvalidNumber):
                difference(document_book(), Book(()), document_listing(), receivers)
            with self.subTest(receivers), self.assertRaises(InvalidNumber):
                difference(Book(()), Book(()), Listing({}), receivers)

    def test_as_the_document_tells_it(self):
        chance = random.Random(16)
        for book, listing, receivers in random_cases(60, 6):
            other = random_book(chance)
            found = [names for names in reference.subsets(listing.names)
                     if sorted(reference.taken_up(book, listing.only(names), receivers))
                     != sorted(reference.taken_up(other, listing.only(names), receivers))]
            self.assertEqual(difference(book, other, listing, receivers), (found or [None])[0])


def log_of(book, *rows):
    """Return the log of a book for tuples (listing, receivers)."""
    return [(listing, receivers, tuple(own_plan(book, listing, receivers))) for listing, receivers in rows]


class PossibleBooksTest(unittest.TestCase):
    def assert_index(self, index, *arguments):
        for call in (possible_books, lambda *told: judged(*told, 0)):
            with self.assertRaises(InvalidLog) as caught:
                call(*arguments)
            self.assertEqual(caught.exception.index, index)

    def test_the_document(self):
        log = [(document_listing(), 1, ("bee",))]
        self.assertEqual(possible_books(document_book().rules, 2, log), [(1,)])

    def test_an_empty_log(self):
        pool = (NEWS, QUIZ, FILM)
        self.assertEqual(possible_books(pool, 0, []), [()])
        self.assertEqual(possible_books(pool, 1, []), [(), (0,), (1,), (2,)])
        self.assertEqual(possible_books(pool, 2, []), [(), (0,), (1,), (2,), (0, 1), (0, 2), (1, 2)])
        self.assertEqual(possible_books(pool, 3, [])[-1], (0, 1, 2))
        self.assertEqual(len(possible_books(pool, 3, [])), 8)

    def test_an_empty_pool(self):
        self.assertEqual(possible_books((), 3, []), [()])
        self.assertEqual(possible_books((), 3, [(document_listing(), 1, ())]), [()])
        self.assertEqual(possible_books((), 3, [(document_listing(), 1, ("bee",))]), [])

    def test_at_most_0_rules(self):
        self.assertEqual(possible_books((NEWS, QUIZ), 0, [(document_listing(), 1, ())]), [()])
        self.assertEqual(possible_books((NEWS, QUIZ), 0, [(document_listing(), 1, ("bee",))]), [])

    def test_at_most_3_of_8_rules(self):
        pool = tuple(Rule("news", at, at, 1) for at in range(1, 9))
        expected = [row for many in range(4) for row in itertools.combinations(range(8), many)]
        self.assertEqual(possible_books(pool, 3, []), expected)
        self.assertEqual(len(expected), 93)
        listing = listing_of(**{"abcdefgh"[at]: ("news", at + 1, at, at + 1) for at in range(8)})
        self.assertEqual(possible_books(pool, 3, [(listing, 1, ("c", "f", "h"))]), [(2, 5, 7)])
        self.assertEqual(possible_books(pool, 2, [(listing, 1, ("c", "f", "h"))]), [])

    def test_equal_rules(self):
        self.assertEqual(possible_books((NEWS, NEWS), 2, [(document_listing(), 1, ("ant",))]), [(0,), (1,), (0, 1)])

    def test_the_rules_in_this_order(self):
        # By the first rule "a" is lost, by the second one "b".
        pool = (Rule("news", 1, 9, 1), Rule("news", 1, 9, 3), QUIZ)
        listing = listing_of(a=("news", 1, 0, 10), b=("quiz", 1, 0, 10))
        self.assertEqual(possible_books(pool, 3, [(listing, 1, ("b",))]), [(2,), (0, 2), (0, 1, 2)])
        self.assertEqual(possible_books(pool, 3, [(listing, 1, ("a",))]), [(0,), (1,), (0, 1), (1, 2)])

    def test_just_these_sendings(self):
        listing = listing_of(a=("news", 1, 0, 10), b=("quiz", 1, 20, 30))
        self.assertEqual(possible_books((NEWS, QUIZ), 2, [(listing, 1, ("a",))]), [(0,)])
        self.assertEqual(possible_books((NEWS, QUIZ), 2, [(listing, 1, ("a", "b"))]), [(0, 1)])
        self.assertEqual(possible_books((NEWS, QUIZ), 2, [(listing, 1, ())]), [()])

    def test_the_numbers_of_the_receivers_do_not_matter(self):
        listing = listing_of(a=("news", 1, 0, 10), b=("quiz", 1, 0, 10))
        pool = (NEWS, QUIZ, Rule("quiz", 1, 9, 9))
        self.assertEqual(possible_books(pool, 2, [(listing, 2, ("a", "b"))]), [(0, 1), (0, 2)])

    def test_names_that_are_not_there(self):
        for names in (("dog",), ("ant", "dog"), ("",)):
            with self.subTest(names):
                self.assertEqual(possible_books((NEWS, QUIZ), 2, [(document_listing(), 1, names)]), [])

    def test_a_listing_with_nothing(self):
        self.assertEqual(possible_books((NEWS,), 1, [(Listing({}), 1, ())]), [(), (0,)])
        self.assertEqual(possible_books((NEWS,), 1, [(Listing({}), 1, ("a",))]), [])

    def test_all_rows_of_the_log(self):
        listing = listing_of(a=("news", 1, 0, 10), b=("quiz", 1, 0, 10))
        log = [(listing.only(("a",)), 1, ("a",)), (listing.only(("b",)), 1, ("b",)), (listing, 1, ("a",))]
        self.assertEqual(possible_books((NEWS, QUIZ, Rule("news", 1, 9, 1)), 3, log), [(0, 1), (0, 1, 2)])
        self.assertEqual(possible_books((NEWS, QUIZ), 3, [*log, (listing, 1, ("b",))]), [])

    def test_nothing_is_seen_between_the_rows(self):
        row = (document_listing(), 1, ("ant",))
        self.assertEqual(possible_books((NEWS, QUIZ), 2, [row, row]), [(0,), (0, 1)])

    def test_invalid_pool(self):
        for many in (9, 12):
            for most, log in ((3, []), (4, []), (1, [(document_listing(), 0, ())])):
                with self.subTest(many=many, most=most), self.assertRaises(InvalidPool):
                    possible_books((NEWS,) * many, most, log)
        self.assertEqual(len(possible_books((NEWS,) * 8, 1, [])), 9)

    def test_invalid_number(self):
        for most in (-1, 4, 100, True, False):
            for log in ([], [(document_listing(), 0, ())]):
                with self.subTest(most=most, log=log), self.assertRaises(InvalidNumber):
                    possible_books((NEWS,), most, log)

    def test_invalid_log(self):
        listing = document_listing()
        good = (listing, 1, ())
        for receivers in WRONG_RECEIVERS:
            with self.subTest(receivers):
                bad = (listing, receivers, ())
                self.assert_index(0, (NEWS,), 1, [bad])
                self.assert_index(2, (NEWS,), 1, [good, good, bad, good, bad])
                self.assert_index(1, (), 0, [(listing, 10, ("dog",)), bad])

    def test_what_is_handed_in_stays_and_the_list_is_new(self):
        log = [(document_listing(), 1, ("bee",))]
        possible_books((NEWS, QUIZ), 2, log).clear()
        self.assertEqual(possible_books((NEWS, QUIZ), 2, log), [(1,)])
        self.assertEqual(log, [(document_listing(), 1, ("bee",))])

    def test_as_the_document_tells_it(self):
        chance = random.Random(61)
        for _ in range(40):
            pool = (*random_book(chance).rules, *random_book(chance).rules)[:8]
            rows = [(random_listing(chance, 4), chance.randint(1, 2)) for _ in range(3)]
            chosen = sorted(chance.sample(range(len(pool)), min(len(pool), chance.randint(0, 3))))
            log = log_of(Book(tuple(pool[at] for at in chosen)), *rows)
            expected = []
            for many in range(4):
                for at in itertools.combinations(range(len(pool)), many):
                    book = Book(tuple(pool[one] for one in at))
                    if all(sorted(name for name, _ in reference.taken_up(book, listing, receivers)) == list(names)
                           for listing, receivers, names in log):
                        expected.append(at)
            self.assertEqual(possible_books(pool, 3, log), expected)
            self.assertIn(tuple(chosen), expected)
            for index in range(len(pool)):
                having = sum(index in row for row in expected)
                word = "surely" if having == len(expected) else "perhaps" if having else "never"
                self.assertEqual(judged(pool, 3, log, index), word)


class JudgedTest(unittest.TestCase):
    def test_the_document(self):
        log = [(document_listing(), 1, ("bee",))]
        self.assertEqual(judged(document_book().rules, 2, log, 0), "never")
        self.assertEqual(judged(document_book().rules, 2, log, 1), "surely")

    def test_each_word(self):
        log = [(document_listing(), 1, ("ant",))]
        pool = (NEWS, QUIZ, Rule("quiz", 1, 9, 9))
        self.assertEqual([judged(pool, 2, log, at) for at in range(3)], ["surely", "perhaps", "never"])
        # Behind rule 1, rule 2 changes nothing.
        self.assertEqual([judged(pool, 3, log, at) for at in range(3)], ["surely", "perhaps", "perhaps"])

    def test_an_empty_log(self):
        self.assertEqual([judged((NEWS, QUIZ), 1, [], at) for at in (0, 1)], ["perhaps", "perhaps"])
        self.assertEqual([judged((NEWS, QUIZ), 0, [], at) for at in (0, 1)], ["never", "never"])

    def test_invalid_pool_goes_ahead(self):
        with self.assertRaises(InvalidPool):
            judged((NEWS,) * 9, 4, [(document_listing(), 0, ())], 9)

    def test_invalid_number_goes_ahead_of_the_log(self):
        for most in (-1, 4, True):
            with self.subTest(most), self.assertRaises(InvalidNumber):
                judged((NEWS,), most, [(document_listing(), 0, ())], 0)

    def test_the_log_goes_ahead_of_the_index(self):
        with self.assertRaises(InvalidLog) as caught:
            judged((NEWS,), 1, [(document_listing(), 1, ()), (document_listing(), 0, ())], 5)
        self.assertEqual(vars(caught.exception), {"index": 1})

    def test_an_index_that_the_pool_does_not_have(self):
        for index in (-1, 2, 8, True, False):
            for log in ([], [(document_listing(), 1, ("dog",))]):
                with self.subTest(index=index, log=log), self.assertRaises(InvalidNumber):
                    judged((NEWS, QUIZ), 2, log, index)
        with self.assertRaises(InvalidNumber):
            judged((), 2, [], 0)

    def test_no_fit(self):
        for log in ([(document_listing(), 1, ("dog",))], [(document_listing(), 1, ("ant", "bee"))]):
            with self.subTest(log), self.assertRaises(NoFit):
                judged((NEWS, QUIZ), 2, log, 0)
        with self.assertRaises(NoFit):
            judged((NEWS, QUIZ), 0, [(document_listing(), 1, ("ant",))], 1)


if __name__ == "__main__":
    unittest.main()
