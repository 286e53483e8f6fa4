"""Points 7 and 8: the recorder's own plan, what is lost, and what was in its way."""

import itertools
import unittest

from fewtuners.books import Book, Rule
from fewtuners.errors import InvalidNumber, UnknownEpisode
from fewtuners.listings import Listing
from fewtuners.plans import in_the_way, is_plan, lost, own_plan
from tests import reference
from tests.samples import WRONG_RECEIVERS, document_book, document_listing, listing_of, random_cases

BOOK = Book((Rule("high", 1, 9, 9), Rule("mid", 1, 9, 5), Rule("low", 1, 9, 1)))


class OwnPlanTest(unittest.TestCase):
    def test_the_document(self):
        self.assertEqual(own_plan(document_book(), document_listing(), 1), {"ant": 0})
        self.assertEqual(own_plan(document_book(), document_listing(), 2), {"ant": 0, "bee": 1})

    def test_nothing(self):
        self.assertEqual(own_plan(BOOK, Listing({}), 1), {})
        self.assertEqual(own_plan(Book(()), document_listing(), 10), {})
        seen = document_book().with_seen((("news", 1), ("quiz", 1)))
        self.assertEqual(own_plan(seen, document_listing(), 2), {})

    def test_the_greater_priority_comes_first(self):
        listing = listing_of(a=("low", 1, 0, 10), b=("high", 1, 5, 15), c=("mid", 1, 9, 20))
        self.assertEqual(own_plan(BOOK, listing, 1), {"b": 0})
        self.assertEqual(own_plan(BOOK, listing, 2), {"b": 0, "c": 1})
        self.assertEqual(own_plan(BOOK, listing, 3), {"a": 2, "b": 0, "c": 1})

    def test_the_first_sending_that_fits(self):
        listing = listing_of(a=("high", 1, 0, 10), b=("low", 1, 5, 8), c=("low", 1, 9, 12), d=("low", 1, 10, 20),
                             e=("low", 1, 30, 40))
        self.assertEqual(own_plan(BOOK, listing, 1), {"a": 0, "d": 0})
        self.assertEqual(own_plan(BOOK, listing, 2), {"a": 0, "b": 1})

    def test_an_earlier_sending_goes_ahead_of_a_lesser_receiver(self):
        listing = listing_of(a=("high", 1, 0, 10), b=("low", 1, 5, 8), c=("low", 1, 20, 22))
        self.assertEqual(own_plan(BOOK, listing, 2), {"a": 0, "b": 1})

    def test_equal_beginnings_by_names(self):
        listing = listing_of(b=("low", 1, 5, 8), a=("low", 1, 5, 9))
        self.assertEqual(own_plan(BOOK, listing, 2), {"a": 0})

    def test_a_sending_takes_the_least_receiver_that_is_free(self):
        listing = listing_of(a=("high", 1, 0, 10), b=("high", 2, 1, 30), c=("high", 3, 2, 8), d=("low", 1, 9, 12),
                             e=("low", 2, 15, 20))
        self.assertEqual(own_plan(BOOK, listing, 3), {"a": 0, "b": 1, "c": 2, "d": 2, "e": 0})

    def test_free_in_the_whole_window(self):
        # Free at the beginning of "b", but no more at its end.
        listing = listing_of(a=("high", 1, 20, 30), b=("low", 1, 5, 21))
        self.assertEqual(own_plan(BOOK, listing, 1), {"a": 0})
        self.assertEqual(own_plan(BOOK, listing, 2), {"a": 0, "b": 1})

    def test_windows_that_touch(self):
        listing = listing_of(a=("high", 1, 10, 20), b=("low", 1, 0, 10), c=("low", 2, 20, 30), d=("low", 3, 19, 20))
        self.assertEqual(own_plan(BOOK, listing, 1), {"a": 0, "b": 0, "c": 0})

    def test_windows_touch_by_their_padding(self):
        listing = listing_of(a=("high", 1, 10, 20), b=("low", 1, 23, 30))
        for before, after, found in ((1, 2, {"a": 0, "b": 0}), (2, 2, {"a": 0}), (1, 3, {"a": 0})):
            with self.subTest(before=before, after=after):
                book = Book((Rule("high", 1, 9, 9, 0, after), Rule("low", 1, 9, 1, before)))
                self.assertEqual(own_plan(book, listing, 1), found)

    def test_no_window_begins_ahead_of_minute_0(self):
        listing = listing_of(a=("high", 1, 3, 10))
        self.assertEqual(own_plan(Book((Rule("high", 1, 1, 1, 60),)), listing, 1), {"a": 0})

    def test_names_ascend(self):
        listing = listing_of(c=("high", 1, 0, 10), a=("mid", 1, 20, 30), b=("low", 1, 40, 50))
        self.assertEqual(list(own_plan(BOOK, listing, 1)), ["a", "b", "c"])

    def test_ten_receivers_for_ten_sendings(self):
        listing = listing_of(**{"abcdefghij"[at]: ("low", at + 1, 0, 10) for at in range(9)}, j=("high", 1, 0, 10))
        plan = own_plan(BOOK, listing, 10)
        self.assertEqual(plan, {**{"abcdefghi"[at]: at + 1 for at in range(9)}, "j": 0})

    def test_wrong_receivers(self):
        for receivers in WRONG_RECEIVERS:
            with self.subTest(receivers), self.assertRaises(InvalidNumber):
                own_plan(document_book(), document_listing(), receivers)
            with self.subTest(receivers), self.assertRaises(InvalidNumber):
                own_plan(Book(()), Listing({}), receivers)

    def test_one_and_ten_receivers(self):
        self.assertEqual(own_plan(document_book(), document_listing(), 1), {"ant": 0})
        self.assertEqual(own_plan(document_book(), document_listing(), 10), {"ant": 0, "bee": 1})

    def test_the_dict_is_new(self):
        book, listing = document_book(), document_listing()
        own_plan(book, listing, 2).clear()
        self.assertEqual(own_plan(book, listing, 2), {"ant": 0, "bee": 1})
        self.assertEqual((book, listing), (document_book(), document_listing()))

    def test_as_the_document_tells_it(self):
        for book, listing, receivers in random_cases(300):
            with self.subTest(listing=listing.names, receivers=receivers):
                plan = own_plan(book, listing, receivers)
                self.assertEqual(list(plan.items()), sorted(reference.taken_up(book, listing, receivers)))


class IsPlanTest(unittest.TestCase):
    def test_the_document(self):
        self.assertIs(is_plan(document_book(), document_listing(), 1, {"cat": 0, "bee": 0}), True)

    def test_no_recording(self):
        self.assertIs(is_plan(document_book(), document_listing(), 1, {}), True)
        self.assertIs(is_plan(Book(()), Listing({}), 10, {}), True)

    def test_in_any_order(self):
        listing = listing_of(a=("low", 1, 0, 10), b=("low", 2, 5, 15), c=("low", 3, 10, 20))
        for names in itertools.permutations(("a", "b", "c")):
            plan = {"a": 0, "b": 1, "c": 0}
            self.assertIs(is_plan(BOOK, listing, 2, {name: plan[name] for name in names}), True)
            plan = {"a": 0, "b": 1, "c": 1}
            self.assertIs(is_plan(BOOK, listing, 2, {name: plan[name] for name in names}), False)

    def test_not_only_the_own_plan(self):
        self.assertIs(is_plan(document_book(), document_listing(), 9, {"ant": 8, "bee": 3}), True)

    def test_receivers_that_are_not_there(self):
        for receiver, right in ((-1, False), (0, True), (1, True), (2, False), (10, False)):
            with self.subTest(receiver):
                self.assertIs(is_plan(document_book(), document_listing(), 2, {"ant": receiver}), right)

    def test_names_that_are_not_there(self):
        for name in ("dog", "", "Ant", "an"):
            with self.subTest(name):
                self.assertIs(is_plan(document_book(), document_listing(), 2, {name: 0}), False)
                self.assertIs(is_plan(document_book(), document_listing(), 2, {"ant": 0, name: 1}), False)

    def test_what_is_not_wished_for(self):
        book = Book((Rule("quiz", 1, 1, 3),))
        self.assertIs(is_plan(book, document_listing(), 1, {"bee": 0}), True)
        self.assertIs(is_plan(book, document_listing(), 1, {"cat": 0}), False)
        seen = document_book().with_seen((("quiz", 1),))
        self.assertIs(is_plan(seen, document_listing(), 1, {"bee": 0}), False)

    def test_an_episode_twice(self):
        self.assertIs(is_plan(document_book(), document_listing(), 1, {"ant": 0, "cat": 0}), False)
        self.assertIs(is_plan(document_book(), document_listing(), 2, {"ant": 0, "cat": 1}), False)

    def test_windows_that_overlap_on_one_receiver(self):
        listing = listing_of(a=("low", 1, 0, 10), b=("low", 2, 10, 20), c=("low", 3, 19, 30))
        self.assertIs(is_plan(BOOK, listing, 2, {"a": 0, "b": 0}), True)
        self.assertIs(is_plan(BOOK, listing, 2, {"b": 0, "c": 0}), False)
        self.assertIs(is_plan(BOOK, listing, 2, {"b": 0, "c": 1}), True)
        self.assertIs(is_plan(Book((Rule("low", 1, 9, 1, 1),)), listing, 2, {"a": 0, "b": 0}), False)
        self.assertIs(is_plan(Book((Rule("low", 1, 9, 1, 0, 1),)), listing, 2, {"a": 0, "b": 0}), False)

    def test_wrong_receivers(self):
        for receivers in WRONG_RECEIVERS:
            for plan in ({}, {"dog": 0}, {"ant": 0}):
                with self.subTest(receivers=receivers, plan=plan), self.assertRaises(InvalidNumber):
                    is_plan(document_book(), document_listing(), receivers, plan)

    def test_the_plan_stays_as_it_was(self):
        plan = {"cat": 0, "bee": 0}
        is_plan(document_book(), document_listing(), 1, plan)
        self.assertEqual(list(plan.items()), [("cat", 0), ("bee", 0)])

    def test_as_the_document_tells_it(self):
        for book, listing, receivers in random_cases(40, 4):
            minutes = reference.windows(book, listing)
            for seats in itertools.product((None, 0, 1), repeat=len(listing)):
                plan = {name: seat for name, seat in zip(listing.names, seats) if seat is not None}
                right = all(name in minutes and plan[name] < receivers for name in plan) and all(
                    reference.episode(listing, one) != reference.episode(listing, other)
                    and not (plan[one] == plan[other] and minutes[one] & minutes[other])
                    for one, other in itertools.combinations(plan, 2)
                )
                self.assertIs(is_plan(book, listing, receivers, plan), right)


class LostTest(unittest.TestCase):
    def test_the_document(self):
        self.assertEqual(lost(document_book(), document_listing(), 1), [("quiz", 1)])
        self.assertEqual(lost(document_book(), document_listing(), 2), [])

    def test_nothing(self):
        self.assertEqual(lost(BOOK, Listing({}), 1), [])
        self.assertEqual(lost(Book(()), document_listing(), 1), [])
        self.assertEqual(lost(document_book().with_seen((("quiz", 1),)), document_listing(), 1), [])

    def test_in_the_order_of_the_wishes(self):
        listing = listing_of(a=("low", 1, 0, 10), b=("mid", 2, 5, 8), c=("mid", 1, 4, 8), d=("high", 1, 0, 30),
                             e=("low", 2, 2, 6), f=("low", 3, 30, 40))
        self.assertEqual(lost(BOOK, listing, 1), [("mid", 1), ("mid", 2), ("low", 1), ("low", 2)])
        self.assertEqual(lost(BOOK, listing, 2), [("mid", 2), ("low", 1), ("low", 2)])

    def test_an_episode_with_several_sendings_once(self):
        listing = listing_of(a=("high", 1, 0, 90), b=("low", 1, 5, 8), c=("low", 1, 20, 22))
        self.assertEqual(lost(BOOK, listing, 1), [("low", 1)])

    def test_an_episode_of_which_a_later_sending_is_recorded(self):
        listing = listing_of(a=("high", 1, 0, 10), b=("low", 1, 5, 8), c=("low", 1, 20, 22))
        self.assertEqual(lost(BOOK, listing, 1), [])

    def test_wrong_receivers(self):
        for receivers in WRONG_RECEIVERS:
            with self.subTest(receivers), self.assertRaises(InvalidNumber):
                lost(document_book(), document_listing(), receivers)

    def test_the_list_is_new(self):
        book, listing = document_book(), document_listing()
        lost(book, listing, 1).clear()
        self.assertEqual(lost(book, listing, 1), [("quiz", 1)])


class InTheWayTest(unittest.TestCase):
    def test_the_document(self):
        self.assertEqual(in_the_way(document_book(), document_listing(), 1, ("quiz", 1)), {"bee": [["ant"]]})

    def test_a_list_for_each_receiver(self):
        listing = listing_of(a=("high", 1, 0, 10), b=("high", 2, 5, 15), c=("low", 1, 8, 20))
        self.assertEqual(in_the_way(BOOK, listing, 2, ("low", 1)), {"c": [["a"], ["b"]]})

    def test_ascending_names_on_each_receiver(self):
        listing = listing_of(d=("high", 1, 0, 10), b=("high", 2, 20, 30), a=("high", 3, 40, 50), c=("low", 1, 5, 41))
        self.assertEqual(in_the_way(BOOK, listing, 1, ("low", 1)), {"c": [["a", "b", "d"]]})

    def test_the_sendings_in_their_order(self):
        listing = listing_of(a=("high", 1, 0, 50), b=("low", 1, 30, 40), c=("low", 1, 4, 10), d=("low", 1, 30, 35))
        found = in_the_way(BOOK, listing, 1, ("low", 1))
        self.assertEqual(list(found.items()), [("c", [["a"]]), ("b", [["a"]]), ("d", [["a"]])])

    def test_not_what_was_taken_up_later(self):
        listing = listing_of(a=("high", 1, 0, 10), b=("mid", 1, 9, 30), c=("low", 1, 12, 20))
        self.assertEqual(own_plan(BOOK, listing, 1), {"a": 0, "c": 0})
        self.assertEqual(in_the_way(BOOK, listing, 1, ("mid", 1)), {"b": [["a"]]})

    def test_not_what_does_not_overlap(self):
        listing = listing_of(a=("high", 1, 0, 10), b=("high", 2, 20, 30), c=("low", 1, 9, 20))
        self.assertEqual(in_the_way(BOOK, listing, 1, ("low", 1)), {"c": [["a"]]})

    def test_by_windows_with_padding(self):
        listing = listing_of(a=("high", 1, 0, 10), b=("low", 1, 12, 20))
        book = Book((Rule("high", 1, 9, 9, 0, 2), Rule("low", 1, 9, 1, 1)))
        self.assertEqual(in_the_way(book, listing, 1, ("low", 1)), {"b": [["a"]]})

    def test_an_episode_that_is_not_lost(self):
        for episode in (("news", 1), ("news", 2), ("film", 1), ("quiz", 2)):
            with self.subTest(episode), self.assertRaises(UnknownEpisode):
                in_the_way(document_book(), document_listing(), 1, episode)
        with self.assertRaises(UnknownEpisode):
            in_the_way(document_book(), document_listing(), 2, ("quiz", 1))
        with self.assertRaises(UnknownEpisode):
            in_the_way(document_book().with_seen((("quiz", 1),)), document_listing(), 1, ("quiz", 1))

    def test_wrong_receivers_go_ahead(self):
        for receivers in WRONG_RECEIVERS:
            for episode in (("quiz", 1), ("film", 1)):
                with self.subTest(receivers=receivers, episode=episode), self.assertRaises(InvalidNumber):
                    in_the_way(document_book(), document_listing(), receivers, episode)

    def test_the_dict_and_its_lists_are_new(self):
        book, listing = document_book(), document_listing()
        found = in_the_way(book, listing, 1, ("quiz", 1))
        found["bee"][0].clear()
        found["bee"].clear()
        found.clear()
        self.assertEqual(in_the_way(book, listing, 1, ("quiz", 1)), {"bee": [["ant"]]})

    def test_lists_of_several_receivers_are_not_the_same(self):
        listing = listing_of(a=("high", 1, 0, 10), b=("high", 2, 0, 10), c=("low", 1, 0, 10), d=("low", 1, 5, 10))
        found = in_the_way(BOOK, listing, 2, ("low", 1))
        found["c"][0].append("x")
        self.assertEqual(found, {"c": [["a", "x"], ["b"]], "d": [["a"], ["b"]]})

    def test_as_the_document_tells_it(self):
        for book, listing, receivers in random_cases(300):
            taken = reference.taken_up(book, listing, receivers)
            minutes = reference.windows(book, listing)
            wished = reference.wishes(book, listing)
            recorded = [reference.episode(listing, name) for name, _ in taken]
            gone = [wish for wish in wished if wish not in recorded]
            self.assertEqual(lost(book, listing, receivers), gone)
            for wish in gone:
                found = in_the_way(book, listing, receivers, wish)
                names = [name for name in minutes if reference.episode(listing, name) == wish]
                self.assertEqual(list(found), sorted(names, key=lambda name: (listing[name].begin, name)))
                for name in found:
                    for receiver, names in enumerate(found[name]):
                        self.assertEqual(names, sorted(
                            other for other, at in taken
                            if at == receiver and minutes[other] & minutes[name]
                            and wished.index(reference.episode(listing, other)) < wished.index(wish)
                        ))
                        self.assertTrue(names)
                    self.assertEqual(len(found[name]), receivers)


if __name__ == "__main__":
    unittest.main()
