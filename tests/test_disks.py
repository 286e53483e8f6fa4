"""Points 14 and 15: a small disk, and the rounds until all is recorded."""

import unittest

from fewtuners.books import Book, Rule
from fewtuners.disks import least_disk, on_disk, round_of, rounds
from fewtuners.errors import InvalidNumber, UnknownEpisode
from fewtuners.listings import Listing
from fewtuners.plans import own_plan
from tests import reference
from tests.samples import WRONG_RECEIVERS, document_book, document_listing, listing_of, random_cases

BOOK = Book((Rule("high", 1, 99, 5), Rule("mid", 1, 99, 3), Rule("low", 1, 99, 1)))


def four():
    """Return a listing of recordings of 10, 20, 30 and 40 minutes, one after another."""
    return listing_of(a=("low", 1, 0, 10), b=("low", 2, 10, 30), c=("low", 3, 30, 60), d=("low", 4, 60, 100))


class OnDiskTest(unittest.TestCase):
    def test_the_document(self):
        book, listing = document_book(), document_listing()
        self.assertEqual(on_disk(book, listing, 2, 40, ("ant",)), (["ant"], [], ["bee"]))
        self.assertEqual(on_disk(book, listing, 2, 40, ()), (["bee"], ["ant"], []))

    def test_nothing(self):
        self.assertEqual(on_disk(BOOK, Listing({}), 1, 1, ()), ([], [], []))
        self.assertEqual(on_disk(Book(()), document_listing(), 1, 1, ("ant",)), ([], [], []))

    def test_just_enough_minutes(self):
        self.assertEqual(on_disk(BOOK, four(), 1, 100, ()), (["a", "b", "c", "d"], [], []))
        self.assertEqual(on_disk(BOOK, four(), 1, 99, ()), (["b", "c", "d"], ["a"], []))
        self.assertEqual(on_disk(BOOK, four(), 1, 90, ()), (["b", "c", "d"], ["a"], []))
        self.assertEqual(on_disk(BOOK, four(), 1, 89, ()), (["c", "d"], ["a", "b"], []))

    def test_one_recording_that_needs_the_whole_disk(self):
        self.assertEqual(on_disk(BOOK, four(), 1, 40, ()), (["d"], ["a", "b", "c"], []))
        self.assertEqual(on_disk(BOOK, four(), 1, 39, ()), (["c"], ["a", "b"], ["d"]))
        self.assertEqual(on_disk(BOOK, four(), 1, 9, ()), ([], [], ["a", "b", "c", "d"]))

    def test_nothing_is_deleted_for_what_is_refused(self):
        listing = listing_of(a=("low", 1, 0, 10), b=("low", 2, 10, 60), c=("low", 3, 60, 70))
        self.assertEqual(on_disk(BOOK, listing, 1, 20, ()), (["a", "c"], [], ["b"]))

    def test_protected_ones_are_not_deleted(self):
        self.assertEqual(on_disk(BOOK, four(), 1, 60, ("a",)), (["a", "d"], ["b", "c"], []))
        self.assertEqual(on_disk(BOOK, four(), 1, 70, ("b",)), (["b", "d"], ["a", "c"], []))
        self.assertEqual(on_disk(BOOK, four(), 1, 60, ("c",)), (["a", "b", "c"], [], ["d"]))
        self.assertEqual(on_disk(BOOK, four(), 1, 59, ("c",)), (["b", "c"], ["a"], ["d"]))
        self.assertEqual(on_disk(BOOK, four(), 1, 60, ("a", "b")), (["a", "b", "c"], [], ["d"]))

    def test_just_enough_minutes_without_the_protected_ones(self):
        self.assertEqual(on_disk(BOOK, four(), 1, 50, ("a",)), (["a", "d"], ["b", "c"], []))
        self.assertEqual(on_disk(BOOK, four(), 1, 49, ("a",)), (["a", "c"], ["b"], ["d"]))

    def test_a_protected_one_that_is_not_on_the_disk_takes_no_minutes(self):
        # "c" is refused, and so does not count against "d".
        listing = listing_of(a=("low", 1, 0, 10), b=("low", 2, 10, 20), c=("low", 3, 20, 90), d=("low", 4, 90, 140))
        self.assertEqual(on_disk(BOOK, listing, 1, 50, ("c",)), (["d"], ["a", "b"], ["c"]))

    def test_a_protected_one_that_comes_later_takes_no_minutes(self):
        listing = listing_of(a=("low", 1, 0, 50), b=("low", 2, 50, 60))
        self.assertEqual(on_disk(BOOK, listing, 1, 50, ("b",)), (["b"], ["a"], []))

    def test_a_new_protected_one_deletes_others(self):
        self.assertEqual(on_disk(BOOK, four(), 1, 60, ("d",)), (["d"], ["a", "b", "c"], []))
        self.assertEqual(on_disk(BOOK, four(), 1, 70, ("d",)), (["c", "d"], ["a", "b"], []))

    def test_names_that_are_not_recorded(self):
        book, listing = document_book(), document_listing()
        self.assertEqual(on_disk(book, listing, 2, 40, ("cat", "dog", "", "ant")), (["ant"], [], ["bee"]))
        self.assertEqual(on_disk(book, listing, 2, 40, ("cat", "dog")), (["bee"], ["ant"], []))
        self.assertEqual(on_disk(book, listing, 1, 40, ("bee",)), (["ant"], [], []))

    def test_a_name_that_is_protected_twice(self):
        self.assertEqual(on_disk(BOOK, four(), 1, 60, ("a", "a")), (["a", "d"], ["b", "c"], []))

    def test_by_the_beginnings_of_windows_then_by_names(self):
        listing = listing_of(d=("high", 1, 9, 19), c=("low", 1, 7, 19), b=("low", 2, 4, 14), a=("low", 3, 4, 24))
        self.assertEqual(on_disk(BOOK, listing, 4, 10 ** 6, ()), (["a", "b", "c", "d"], [], []))
        book = Book((Rule("high", 1, 9, 9, 3), Rule("low", 1, 9, 1)))
        self.assertEqual(on_disk(book, listing, 4, 10 ** 6, ()), (["a", "b", "d", "c"], [], []))
        book = Book((Rule("high", 1, 9, 9, 60), Rule("low", 1, 9, 1, 4)))
        self.assertEqual(on_disk(book, listing, 4, 100, ()), (["a", "b", "d", "c"], [], []))
        self.assertEqual(on_disk(book, listing, 4, 40, ()), (["d", "c"], ["a", "b"], []))

    def test_as_many_minutes_as_the_window(self):
        listing = listing_of(a=("low", 1, 4, 10))
        for before, after, minutes in ((0, 0, 6), (2, 3, 11), (4, 0, 10), (60, 0, 10)):
            with self.subTest(before=before, after=after):
                book = Book((Rule("low", 1, 9, 1, before, after),))
                self.assertEqual(on_disk(book, listing, 1, minutes, ()), (["a"], [], []))
                self.assertEqual(on_disk(book, listing, 1, minutes - 1, ()), ([], [], ["a"]))

    def test_wrong_receivers(self):
        for receivers in WRONG_RECEIVERS:
            with self.subTest(receivers), self.assertRaises(InvalidNumber):
                on_disk(document_book(), document_listing(), receivers, 40, ())

    def test_wrong_minutes(self):
        for minutes in (0, -1, 10 ** 6 + 1, True):
            with self.subTest(minutes), self.assertRaises(InvalidNumber):
                on_disk(document_book(), document_listing(), 2, minutes, ())
            with self.subTest(minutes), self.assertRaises(InvalidNumber):
                on_disk(Book(()), Listing({}), 2, minutes, ())

    def test_least_and_greatest_minutes(self):
        listing = listing_of(a=("low", 1, 0, 1), b=("low", 2, 1, 10 ** 6 + 1))
        self.assertEqual(on_disk(BOOK, listing, 1, 1, ()), (["a"], [], ["b"]))
        self.assertEqual(on_disk(BOOK, listing, 1, 10 ** 6, ()), (["b"], ["a"], []))

    def test_the_lists_are_new(self):
        book, listing = document_book(), document_listing()
        for names in on_disk(book, listing, 2, 40, ("ant",)):
            names.append("x")
        self.assertEqual(on_disk(book, listing, 2, 40, ("ant",)), (["ant"], [], ["bee"]))


class LeastDiskTest(unittest.TestCase):
    def test_the_document(self):
        self.assertEqual(least_disk(document_book(), document_listing(), 2, ("ant",)), 57)

    def test_nothing(self):
        self.assertEqual(least_disk(BOOK, Listing({}), 1, ()), 1)
        self.assertEqual(least_disk(Book(()), document_listing(), 1, ("ant",)), 1)

    def test_the_longest_recording(self):
        self.assertEqual(least_disk(BOOK, four(), 1, ()), 40)
        self.assertEqual(least_disk(BOOK, four(), 1, ("d", "e", "")), 40)

    def test_protected_ones_stay_on_the_disk(self):
        self.assertEqual(least_disk(BOOK, four(), 1, ("a",)), 50)
        self.assertEqual(least_disk(BOOK, four(), 1, ("b", "c")), 90)
        self.assertEqual(least_disk(BOOK, four(), 1, ("a", "b", "c", "d")), 100)
        self.assertEqual(least_disk(BOOK, four(), 1, ("a", "a")), 50)

    def test_a_long_one_ahead_of_protected_ones(self):
        listing = listing_of(a=("low", 1, 0, 50), b=("low", 2, 50, 60), c=("low", 3, 60, 70))
        self.assertEqual(least_disk(BOOK, listing, 1, ("b",)), 50)

    def test_10_to_the_5_minutes(self):
        for minutes, found in ((10 ** 5 - 1, 10 ** 5 - 1), (10 ** 5, 10 ** 5), (10 ** 5 + 1, None), (10 ** 6, None)):
            with self.subTest(minutes):
                listing = listing_of(a=("low", 1, 5, 5 + minutes))
                self.assertEqual(least_disk(BOOK, listing, 1, ()), found)
        listing = listing_of(a=("low", 1, 0, 60000), b=("low", 2, 60000, 110000))
        self.assertEqual(least_disk(BOOK, listing, 1, ()), 60000)
        self.assertIsNone(least_disk(BOOK, listing, 1, ("a",)))

    def test_wrong_receivers(self):
        for receivers in WRONG_RECEIVERS:
            with self.subTest(receivers), self.assertRaises(InvalidNumber):
                least_disk(document_book(), document_listing(), receivers, ())

    def test_as_the_disk_tells_it(self):
        for book, listing, receivers in random_cases(100, 7):
            protected = listing.names[::2]
            fits = [minutes for minutes in range(1, 400)
                    if not on_disk(book, listing, receivers, minutes, protected)[2]]
            self.assertEqual(least_disk(book, listing, receivers, protected), fits[0])


class ReferenceTest(unittest.TestCase):
    def test_as_the_document_tells_it(self):
        for at, (book, listing, receivers) in enumerate(random_cases(300)):
            minutes = reference.windows(book, listing)
            plan = [name for name, _ in reference.taken_up(book, listing, receivers)]
            disk, protected = 5 + at, listing.names[1::3]
            kept, deleted, refused = [], [], []
            for name in sorted(plan, key=lambda one: (min(minutes[one]), one)):
                room = {one: len(minutes[one]) for one in (*kept, name)}
                if room[name] + sum(room[one] for one in kept if one in protected) > disk:
                    refused.append(name)
                    continue
                kept.append(name)
                while sum(room[one] for one in kept) > disk:
                    gone = next(one for one in kept if one not in protected and one != name)
                    kept.remove(gone)
                    deleted.append(gone)
            self.assertEqual(on_disk(book, listing, receivers, disk, protected), (kept, deleted, refused))


class RoundsTest(unittest.TestCase):
    def test_the_document(self):
        book, listing = document_book(), document_listing()
        self.assertEqual(rounds(book, listing, 1), [{"ant": 0}, {"bee": 0}])
        self.assertEqual(round_of(book, listing, 1, ("quiz", 1)), 1)

    def test_one_round(self):
        self.assertEqual(rounds(document_book(), document_listing(), 2), [{"ant": 0, "bee": 1}])
        self.assertEqual(round_of(document_book(), document_listing(), 2, ("quiz", 1)), 0)

    def test_no_round(self):
        self.assertEqual(rounds(BOOK, Listing({}), 1), [])
        self.assertEqual(rounds(Book(()), document_listing(), 1), [])
        seen = document_book().with_seen((("news", 1), ("quiz", 1)))
        self.assertEqual(rounds(seen, document_listing(), 1), [])

    def test_a_round_for_each_wish(self):
        listing = listing_of(a=("low", 1, 0, 10), b=("mid", 1, 0, 10), c=("high", 1, 0, 10), d=("low", 1, 5, 6))
        self.assertEqual(rounds(BOOK, listing, 1), [{"c": 0}, {"b": 0}, {"a": 0}])
        self.assertEqual(rounds(BOOK, listing, 2), [{"b": 1, "c": 0}, {"a": 0}])
        self.assertEqual([round_of(BOOK, listing, 1, (show, 1)) for show in ("high", "mid", "low")], [0, 1, 2])
        self.assertEqual([round_of(BOOK, listing, 2, (show, 1)) for show in ("high", "mid", "low")], [0, 0, 1])

    def test_ten_rounds(self):
        listing = listing_of(**{"abcdefghij"[at]: ("low", at + 1, 0, 10) for at in range(10)})
        self.assertEqual(rounds(BOOK, listing, 1), [{name: 0} for name in "abcdefghij"])

    def test_the_same_episode_is_recorded_by_another_rule_neither(self):
        book = Book((Rule("low", 1, 9, 5), Rule("low", 1, 9, 1)))
        listing = listing_of(a=("low", 1, 0, 10), b=("low", 1, 20, 30))
        self.assertEqual(rounds(book, listing, 1), [{"a": 0}])

    def test_unknown_episode(self):
        for episode in (("news", 2), ("film", 1), ("quiz", 2)):
            with self.subTest(episode), self.assertRaises(UnknownEpisode):
                round_of(document_book(), document_listing(), 1, episode)
        with self.assertRaises(UnknownEpisode):
            round_of(document_book().with_seen((("quiz", 1),)), document_listing(), 1, ("quiz", 1))
        with self.assertRaises(UnknownEpisode):
            round_of(Book(()), document_listing(), 1, ("quiz", 1))

    def test_wrong_receivers(self):
        for receivers in WRONG_RECEIVERS:
            with self.subTest(receivers), self.assertRaises(InvalidNumber):
                rounds(document_book(), document_listing(), receivers)
            for episode in (("quiz", 1), ("film", 1)):
                with self.subTest(receivers=receivers, episode=episode), self.assertRaises(InvalidNumber):
                    round_of(document_book(), document_listing(), receivers, episode)

    def test_the_list_and_its_dicts_are_new(self):
        book, listing = document_book(), document_listing()
        found = rounds(book, listing, 1)
        found[0].clear()
        found.clear()
        self.assertEqual(rounds(book, listing, 1), [{"ant": 0}, {"bee": 0}])
        self.assertEqual((book, listing), (document_book(), document_listing()))

    def test_each_wish_in_one_round(self):
        for book, listing, receivers in random_cases(200):
            found = rounds(book, listing, receivers)
            wished = reference.wishes(book, listing)
            recorded = []
            for at, plan in enumerate(found):
                seen = Book(book.rules, (*book.seen, *recorded))
                self.assertEqual(list(plan.items()), sorted(reference.taken_up(seen, listing, receivers)))
                self.assertTrue(plan)
                recorded += [reference.episode(listing, name) for name in plan]
                for name in plan:
                    self.assertEqual(round_of(book, listing, receivers, reference.episode(listing, name)), at)
            self.assertEqual(sorted(recorded), sorted(wished))
            self.assertEqual(found[:1], [plan for plan in [own_plan(book, listing, receivers)] if plan])


if __name__ == "__main__":
    unittest.main()
