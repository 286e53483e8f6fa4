"""Points 9, 10 and 11: choices, their seats, the fewest receivers, and the busiest minute."""

import unittest

from fewtuners.books import Book, Rule
from fewtuners.choices import best_choice, busiest, fewest_best, fewest_own, seated
from fewtuners.errors import InvalidNumber, NotWished, UnknownName
from fewtuners.listings import Listing
from fewtuners.plans import is_plan, lost
from tests import reference
from tests.samples import WRONG_RECEIVERS, document_book, document_listing, listing_of, random_cases

BOOK = Book((Rule("high", 1, 99, 5), Rule("mid", 1, 99, 3), Rule("low", 1, 99, 1)))


class BestChoiceTest(unittest.TestCase):
    def test_the_document(self):
        self.assertEqual(best_choice(document_book(), document_listing(), 1), (8, ("bee", "cat")))

    def test_nothing(self):
        self.assertEqual(best_choice(BOOK, Listing({}), 1), (0, ()))
        self.assertEqual(best_choice(Book(()), document_listing(), 1), (0, ()))

    def test_the_greatest_sum_may_leave_the_most_urgent_wish_out(self):
        listing = listing_of(a=("high", 1, 0, 90), b=("mid", 1, 5, 15), c=("mid", 2, 20, 30))
        self.assertEqual(best_choice(BOOK, listing, 1), (6, ("b", "c")))
        self.assertEqual(best_choice(BOOK, listing, 2), (11, ("a", "b", "c")))

    def test_the_greatest_sum_goes_ahead_of_the_most_sendings(self):
        listing = listing_of(a=("low", 1, 5, 15), b=("low", 2, 20, 30), c=("mid", 1, 0, 90))
        self.assertEqual(best_choice(BOOK, listing, 1), (3, ("c",)))

    def test_of_equal_sums_the_most_sendings(self):
        listing = listing_of(a=("mid", 1, 0, 90), b=("low", 1, 0, 10), c=("low", 2, 10, 20), d=("low", 3, 20, 30))
        self.assertEqual(best_choice(BOOK, listing, 1), (3, ("b", "c", "d")))

    def test_then_the_least_tuple(self):
        listing = listing_of(b=("mid", 1, 0, 10), a=("mid", 2, 5, 9), c=("mid", 3, 20, 30), d=("mid", 3, 1, 3))
        self.assertEqual(best_choice(BOOK, listing, 1), (6, ("a", "c")))
        listing = listing_of(a=("mid", 1, 0, 10), b=("mid", 1, 20, 30))
        self.assertEqual(best_choice(BOOK, listing, 1), (3, ("a",)))

    def test_no_episode_twice(self):
        listing = listing_of(a=("high", 1, 0, 10), b=("high", 1, 20, 30), c=("low", 1, 40, 50))
        self.assertEqual(best_choice(BOOK, listing, 9), (6, ("a", "c")))

    def test_windows_that_touch(self):
        listing = listing_of(a=("mid", 1, 0, 10), b=("mid", 2, 10, 20), c=("mid", 3, 19, 30))
        self.assertEqual(best_choice(BOOK, listing, 1), (6, ("a", "b")))

    def test_windows_with_padding(self):
        listing = listing_of(a=("mid", 1, 0, 10), b=("low", 2, 12, 20))
        for after, before, found in ((1, 1, (4, ("a", "b"))), (2, 1, (3, ("a",))), (1, 2, (3, ("a",)))):
            with self.subTest(after=after, before=before):
                book = Book((Rule("mid", 1, 9, 3, 0, after), Rule("low", 1, 9, 1, before)))
                self.assertEqual(best_choice(book, listing, 1), found)

    def test_many_windows_of_which_few_are_open_at_once(self):
        # Each overlaps two others, but no minute has more than two of them.
        listing = listing_of(a=("low", 1, 0, 10), b=("low", 2, 5, 15), c=("low", 3, 10, 20), d=("low", 4, 15, 25))
        self.assertEqual(best_choice(BOOK, listing, 2), (4, ("a", "b", "c", "d")))

    def test_only_what_is_wished_for(self):
        listing = listing_of(a=("film", 1, 0, 10), b=("high", 1, 0, 10), c=("mid", 1, 20, 30))
        self.assertEqual(best_choice(BOOK.with_seen((("high", 1),)), listing, 2), (3, ("c",)))

    def test_the_priority_is_that_of_the_first_rule(self):
        listing = listing_of(a=("news", 1, 0, 10), b=("news", 2, 0, 10))
        book = Book((Rule("news", 1, 1, 2), Rule("news", 1, 9, 9), Rule("news", 2, 2, 1)))
        self.assertEqual(best_choice(book, listing, 2), (11, ("a", "b")))

    def test_wrong_receivers(self):
        for receivers in WRONG_RECEIVERS:
            with self.subTest(receivers), self.assertRaises(InvalidNumber):
                best_choice(document_book(), document_listing(), receivers)
            with self.subTest(receivers), self.assertRaises(InvalidNumber):
                best_choice(Book(()), Listing({}), receivers)

    def test_as_the_document_tells_it(self):
        for book, listing, receivers in random_cases(60, 8):
            rows = []
            for names in reference.choices(book, listing, receivers):
                rows.append((sum(reference.priority(book, listing, name) for name in names), len(names), names))
            most = max(row[:2] for row in rows)
            best = min(row[2] for row in rows if row[:2] == most)
            self.assertEqual(best_choice(book, listing, receivers), (most[0], best))


class SeatedTest(unittest.TestCase):
    def test_the_document(self):
        self.assertEqual(seated(document_book(), document_listing(), ("ant", "bee")), {"ant": 0, "bee": 1})

    def test_no_names(self):
        self.assertEqual(seated(document_book(), document_listing(), ()), {})
        self.assertEqual(seated(Book(()), Listing({}), ()), {})

    def test_by_the_beginnings_of_windows_then_by_names(self):
        listing = listing_of(a=("low", 1, 6, 20), b=("high", 1, 5, 20), c=("high", 2, 5, 9), d=("low", 2, 9, 30))
        self.assertEqual(seated(BOOK, listing, ("a", "b", "c", "d")), {"a": 2, "b": 0, "c": 1, "d": 1})

    def test_the_beginning_is_that_of_the_window(self):
        listing = listing_of(a=("low", 1, 5, 20), b=("high", 1, 7, 20))
        self.assertEqual(seated(BOOK, listing, ("a", "b")), {"a": 0, "b": 1})
        book = Book((Rule("high", 1, 9, 5, 3), Rule("low", 1, 9, 1)))
        self.assertEqual(seated(book, listing, ("a", "b")), {"a": 1, "b": 0})
        book = Book((Rule("high", 1, 9, 5, 60), Rule("low", 1, 9, 1, 60)))
        self.assertEqual(seated(book, listing, ("a", "b")), {"a": 0, "b": 1})

    def test_a_receiver_is_free_in_the_minute_of_an_end(self):
        listing = listing_of(a=("low", 1, 0, 10), b=("low", 2, 10, 20), c=("low", 3, 19, 30))
        self.assertEqual(seated(BOOK, listing, ("a", "b", "c")), {"a": 0, "b": 0, "c": 1})

    def test_the_least_receiver_that_is_free(self):
        listing = listing_of(a=("low", 1, 0, 10), b=("low", 2, 0, 12), c=("low", 3, 0, 14), d=("low", 4, 13, 20),
                             e=("low", 5, 14, 20), f=("low", 6, 14, 20))
        self.assertEqual(seated(BOOK, listing, listing.names), {"a": 0, "b": 1, "c": 2, "d": 0, "e": 1, "f": 2})

    def test_as_many_receivers_as_are_needed(self):
        listing = listing_of(**{"abcdefghij"[at]: ("low", at + 1, 0, 10) for at in range(10)})
        self.assertEqual(list(seated(BOOK, listing, listing.names).values()), list(range(10)))

    def test_only_the_names_told(self):
        listing = listing_of(a=("low", 1, 0, 10), b=("low", 2, 5, 12), c=("low", 3, 11, 14))
        self.assertEqual(seated(BOOK, listing, ("b", "c")), {"b": 0, "c": 1})

    def test_names_ascend(self):
        listing = listing_of(a=("low", 1, 20, 30), b=("low", 2, 10, 12), c=("low", 3, 0, 14))
        self.assertEqual(list(seated(BOOK, listing, ("a", "b", "c"))), ["a", "b", "c"])

    def test_unknown_name(self):
        for names in (("dog",), ("ant", "dog"), ("", "ant"), ("Ant",)):
            with self.subTest(names), self.assertRaises(UnknownName):
                seated(document_book(), document_listing(), names)

    def test_not_wished(self):
        with self.assertRaises(NotWished):
            seated(Book((Rule("quiz", 1, 9, 3),)), document_listing(), ("ant", "bee"))
        with self.assertRaises(NotWished):
            seated(document_book().with_seen((("news", 1),)), document_listing(), ("cat",))

    def test_unknown_name_goes_ahead_of_not_wished(self):
        for names in (("ant", "dog"), ("dog",), ("aaa", "ant")):
            with self.subTest(names), self.assertRaises(UnknownName):
                seated(Book(()), document_listing(), names)

    def test_the_dict_is_new(self):
        book, listing = document_book(), document_listing()
        seated(book, listing, ("ant", "bee")).clear()
        self.assertEqual(seated(book, listing, ("ant", "bee")), {"ant": 0, "bee": 1})

    def test_a_plan_with_the_fewest_receivers(self):
        for book, listing, receivers in random_cases(100, 8):
            names = best_choice(book, listing, receivers)[1]
            plan = seated(book, listing, names)
            self.assertEqual(tuple(plan), names)
            self.assertTrue(is_plan(book, listing, receivers, plan))
            self.assertEqual(len(set(plan.values())), len(busiest(book, listing, names)[1]))
            minutes = reference.windows(book, listing)
            for name in names:
                ahead = [other for other in names if (min(minutes[other]), other) < (min(minutes[name]), name)]
                busy = {plan[other] for other in ahead if minutes[other] & minutes[name]}
                self.assertEqual(plan[name], min(set(range(11)) - busy))


class FewestTest(unittest.TestCase):
    def test_the_document(self):
        self.assertEqual(fewest_own(document_book(), document_listing()), 2)
        self.assertEqual(fewest_best(document_book(), document_listing()), 1)

    def test_at_least_one(self):
        for book, listing in ((BOOK, Listing({})), (Book(()), document_listing())):
            self.assertEqual(fewest_own(book, listing), 1)
            self.assertEqual(fewest_best(book, listing), 1)

    def test_as_many_as_sendings(self):
        listing = listing_of(**{"abcdefghij"[at]: ("low", at + 1, at, 10) for at in range(10)})
        self.assertEqual(fewest_own(BOOK, listing), 10)
        self.assertEqual(fewest_best(BOOK, listing), 10)

    def test_windows_that_touch(self):
        listing = listing_of(a=("low", 1, 0, 10), b=("low", 2, 10, 20), c=("low", 3, 20, 30))
        self.assertEqual((fewest_own(BOOK, listing), fewest_best(BOOK, listing)), (1, 1))
        book = Book((Rule("low", 1, 9, 1, 1),))
        self.assertEqual((fewest_own(book, listing), fewest_best(book, listing)), (2, 2))

    def test_a_sending_of_each_wish_not_all_sendings(self):
        listing = listing_of(a=("low", 1, 0, 10), b=("low", 1, 5, 15), c=("low", 2, 5, 10), d=("low", 2, 20, 30))
        self.assertEqual((fewest_own(BOOK, listing), fewest_best(BOOK, listing)), (1, 1))

    def test_the_least_number_even_if_a_greater_one_loses_something_again(self):
        # A second receiver takes up "ba", which leaves "ca" free; both of them are in the way of "d" then.
        listing = listing_of(a=("a", 1, 0, 10), ba=("b", 1, 5, 25), bb=("b", 1, 50, 60), ca=("c", 1, 35, 55),
                             cb=("c", 1, 60, 70), d=("d", 1, 20, 40))
        book = Book((Rule("a", 1, 1, 9), Rule("b", 1, 1, 8), Rule("c", 1, 1, 7), Rule("d", 1, 1, 6)))
        self.assertEqual([lost(book, listing, many) for many in (1, 2, 3)], [[], [("d", 1)], []])
        self.assertEqual(fewest_own(book, listing), 1)
        self.assertEqual(fewest_best(book, listing), 1)

    def test_as_the_document_tells_it(self):
        for book, listing, _ in random_cases(80, 7):
            wished = len(reference.wishes(book, listing))
            own = [many for many in range(1, 11) if len(reference.taken_up(book, listing, many)) == wished]
            self.assertEqual(fewest_own(book, listing), own[0])
            best = [many for many in range(1, 8)
                    if any(len(names) == wished for names in reference.choices(book, listing, many))]
            self.assertEqual(fewest_best(book, listing), (best or [1])[0])


class BusiestTest(unittest.TestCase):
    def test_the_document(self):
        self.assertEqual(busiest(document_book(), document_listing(), ("ant", "bee")), (25, ("ant", "bee")))

    def test_no_names(self):
        self.assertEqual(busiest(document_book(), document_listing(), ()), (0, ()))
        self.assertEqual(busiest(Book(()), Listing({}), ()), (0, ()))

    def test_one_name(self):
        self.assertEqual(busiest(document_book(), document_listing(), ("cat",)), (100, ("cat",)))
        self.assertEqual(busiest(BOOK, listing_of(a=("low", 1, 0, 9)), ("a",)), (0, ("a",)))

    def test_the_first_minute(self):
        listing = listing_of(a=("low", 1, 50, 60), b=("low", 2, 55, 65), c=("low", 3, 10, 20), d=("low", 4, 15, 25))
        self.assertEqual(busiest(BOOK, listing, listing.names), (15, ("c", "d")))
        self.assertEqual(busiest(BOOK, listing, ("a", "b", "c")), (55, ("a", "b")))

    def test_windows_that_touch(self):
        listing = listing_of(a=("low", 1, 0, 10), b=("low", 2, 10, 20), c=("low", 3, 19, 30))
        self.assertEqual(busiest(BOOK, listing, ("a", "b")), (0, ("a",)))
        self.assertEqual(busiest(BOOK, listing, listing.names), (19, ("b", "c")))

    def test_windows_with_padding(self):
        listing = listing_of(a=("low", 1, 4, 10), b=("low", 2, 12, 20))
        self.assertEqual(busiest(Book((Rule("low", 1, 9, 1, 5, 5),)), listing, ("a", "b")), (7, ("a", "b")))

    def test_sendings_of_the_same_episode(self):
        listing = listing_of(a=("low", 1, 0, 10), b=("low", 1, 5, 20), c=("low", 2, 7, 9))
        self.assertEqual(busiest(BOOK, listing, listing.names), (7, ("a", "b", "c")))

    def test_ascending_whatever_the_order_of_names(self):
        listing = listing_of(c=("low", 1, 0, 10), b=("low", 2, 5, 20), a=("low", 3, 7, 9))
        self.assertEqual(busiest(BOOK, listing, ("c", "a", "b")), (7, ("a", "b", "c")))

    def test_a_name_that_is_told_twice(self):
        listing = listing_of(a=("low", 1, 0, 10), b=("low", 2, 10, 20))
        self.assertEqual(busiest(BOOK, listing, ("b", "b", "a")), (0, ("a",)))

    def test_unknown_name(self):
        for names in (("dog",), ("ant", "dog"), ("dog", "ant")):
            for book in (document_book(), Book(())):
                with self.subTest(names=names), self.assertRaises(UnknownName):
                    busiest(book, document_listing(), names)

    def test_not_wished(self):
        with self.assertRaises(NotWished):
            busiest(Book((Rule("quiz", 1, 9, 3),)), document_listing(), ("ant", "bee"))

    def test_as_the_document_tells_it(self):
        for book, listing, _ in random_cases(200):
            minutes = reference.windows(book, listing)
            names = tuple(minutes)[:7]
            rows = [tuple(name for name in names if minute in minutes[name]) for minute in range(200)]
            most = max(map(len, rows))
            first = [(minute, row) for minute, row in enumerate(rows) if len(row) == most][0]
            self.assertEqual(busiest(book, listing, names), first)


if __name__ == "__main__":
    unittest.main()
