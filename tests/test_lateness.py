"""Point 20: a channel of which all sendings are late by the same number of minutes."""

import random
import unittest

from fewtuners.errors import NoDelay, UnknownChannel, UnknownName
from fewtuners.lateness import Lateness
from fewtuners.listings import Listing, Sending
from tests.samples import news_listing, random_listing


def of_one(begin, end, late):
    """Return the lateness of a channel with one sending, "a"."""
    return Lateness(Listing({"a": Sending("one", "news", 1, begin, end, late)}), "one")


class NewLatenessTest(unittest.TestCase):
    def test_delays_from_none_to_the_least_late(self):
        self.assertEqual(Lateness(news_listing(), "one").delays, (0, 1, 2, 3))
        self.assertEqual(Lateness(news_listing(), "two").delays, (0,))
        self.assertEqual(of_one(0, 5, 60).delays, tuple(range(61)))

    def test_no_calls(self):
        self.assertEqual(Lateness(news_listing(), "one").calls, [])

    def test_unknown_channel(self):
        for channel in ("three", "", "One", "on", "news", 1, None):
            with self.subTest(channel), self.assertRaises(UnknownChannel):
                Lateness(news_listing(), channel)
        with self.assertRaises(UnknownChannel):
            Lateness(Listing({}), "one")

    def test_the_listing_stays_and_the_list_of_calls_is_new(self):
        listing = news_listing()
        watch = Lateness(listing, "one")
        watch.on_air("a", 11)
        watch.calls.append("x")
        watch.calls.clear()
        self.assertEqual(watch.calls, [("on_air", "a", 11)])
        self.assertEqual(watch.delays, (0, 1))
        self.assertEqual(listing, news_listing())


class ToldTest(unittest.TestCase):
    def test_the_document(self):
        watch = Lateness(news_listing(), "one")
        told = [watch.best_minute("a"), watch.on_air("a", 11), watch.surely_on("b"), watch.delays]
        self.assertEqual(told, [11, 2, (16, 30), (0, 1)])
        self.assertEqual(watch.calls, [("on_air", "a", 11)])

    def test_from_the_beginning_on(self):
        for minute, left in ((10, (0,)), (11, (0, 1)), (13, (0, 1, 2, 3)), (19, (0, 1, 2, 3))):
            with self.subTest(minute):
                watch = Lateness(news_listing(), "one")
                self.assertEqual(watch.on_air("a", minute), len(left))
                self.assertEqual(watch.delays, left)

    def test_not_any_more_in_the_minute_of_the_end(self):
        for minute, left in ((20, (1, 2, 3)), (21, (2, 3)), (22, (3,))):
            with self.subTest(minute):
                watch = Lateness(news_listing(), "one")
                self.assertEqual(watch.on_air("a", minute), len(left))
                self.assertEqual(watch.delays, left)

    def test_silent_ahead_of_it_and_behind_it(self):
        for minute, left in ((0, (0, 1, 2, 3)), (9, (0, 1, 2, 3)), (10, (1, 2, 3)), (12, (3,)), (20, (0,)),
                             (22, (0, 1, 2)), (23, (0, 1, 2, 3)), (10 ** 7, (0, 1, 2, 3)), (-5, (0, 1, 2, 3))):
            with self.subTest(minute):
                watch = Lateness(news_listing(), "one")
                self.assertEqual(watch.silent("a", minute), len(left))
                self.assertEqual(watch.delays, left)

    def test_a_sending_that_is_shorter_than_its_delays(self):
        watch = of_one(10, 12, 9)
        self.assertEqual(watch.silent("a", 14), 8)
        self.assertEqual(watch.delays, (0, 1, 2, 5, 6, 7, 8, 9))

    def test_one_call_after_another(self):
        watch = Lateness(news_listing(), "one")
        self.assertEqual([watch.silent("b", 15), watch.on_air("a", 21), watch.silent("b", 17)], [3, 2, 1])
        self.assertEqual(watch.delays, (3,))
        self.assertEqual(watch.calls, [("silent", "b", 15), ("on_air", "a", 21), ("silent", "b", 17)])

    def test_calls_that_tell_nothing_new_are_kept(self):
        watch = Lateness(news_listing(), "one")
        self.assertEqual([watch.on_air("a", 15), watch.on_air("a", 15), watch.silent("a", 0)], [4, 4, 4])
        self.assertEqual(watch.calls, [("on_air", "a", 15), ("on_air", "a", 15), ("silent", "a", 0)])

    def test_no_delay_changes_nothing(self):
        watch = Lateness(news_listing(), "one")
        watch.on_air("a", 11)
        for call, name, minute in ((watch.on_air, "a", 9), (watch.on_air, "a", 21), (watch.silent, "a", 15),
                                   (watch.on_air, "b", 31), (watch.silent, "b", 16)):
            with self.subTest(name=name, minute=minute), self.assertRaises(NoDelay):
                call(name, minute)
            self.assertEqual((watch.delays, watch.calls), ((0, 1), [("on_air", "a", 11)]))
        self.assertEqual(watch.on_air("b", 15), 1)

    def test_unknown_name_goes_ahead_of_no_delay(self):
        watch = Lateness(news_listing(), "one")
        for name in ("c", "d", "", "A"):
            for call in (watch.on_air, watch.silent):
                for minute in (0, 15, 1000):
                    with self.subTest(name=name, minute=minute), self.assertRaises(UnknownName):
                        call(name, minute)
        self.assertEqual((watch.delays, watch.calls), ((0, 1, 2, 3), []))


class SurelyOnTest(unittest.TestCase):
    def test_the_minutes_of_all_delays(self):
        watch = Lateness(news_listing(), "one")
        self.assertEqual([watch.surely_on("a"), watch.surely_on("b")], [(13, 20), (18, 30)])
        self.assertEqual(Lateness(news_listing(), "two").surely_on("c"), (40, 50))

    def test_one_minute_or_none(self):
        self.assertEqual(of_one(10, 20, 9).surely_on("a"), (19, 20))
        self.assertIsNone(of_one(10, 20, 10).surely_on("a"))
        self.assertIsNone(of_one(10, 20, 60).surely_on("a"))

    def test_the_greatest_and_the_least_delay_that_are_possible(self):
        watch = of_one(10, 20, 60)
        self.assertEqual(watch.silent("a", 19), 51)
        self.assertEqual(watch.on_air("a", 21), 2)
        self.assertEqual(watch.delays, (10, 11))
        self.assertEqual(watch.surely_on("a"), (21, 30))

    def test_unknown_name(self):
        watch = Lateness(news_listing(), "one")
        for name in ("c", "d", ""):
            with self.subTest(name), self.assertRaises(UnknownName):
                watch.surely_on(name)


class BestMinuteTest(unittest.TestCase):
    def test_the_first_of_several(self):
        self.assertEqual(Lateness(news_listing(), "one").best_minute("b"), 16)
        self.assertEqual(of_one(10, 20, 2).best_minute("a"), 10)
        self.assertEqual(of_one(10, 20, 1).best_minute("a"), 10)
        self.assertEqual(of_one(10, 20, 4).best_minute("a"), 11)
        self.assertEqual(of_one(0, 100, 60).best_minute("a"), 29)

    def test_a_short_sending(self):
        # A sending of one minute tells at most one delay, and the first minute tells one already.
        self.assertEqual(of_one(10, 11, 60).best_minute("a"), 10)
        self.assertEqual(of_one(10, 12, 60).best_minute("a"), 11)

    def test_one_delay_is_left(self):
        self.assertIsNone(of_one(10, 20, 0).best_minute("a"))
        watch = Lateness(news_listing(), "one")
        watch.on_air("a", 10)
        self.assertEqual([watch.best_minute("a"), watch.best_minute("b"), watch.delays], [None, None, (0,)])

    def test_after_calls(self):
        watch = of_one(10, 20, 60)
        self.assertEqual(watch.silent("a", 19), 51)
        self.assertEqual(watch.best_minute("a"), 29)
        self.assertEqual(watch.on_air("a", 29), 10)
        self.assertEqual(watch.best_minute("a"), 24)

    def test_unknown_name(self):
        watch = Lateness(news_listing(), "one")
        for name in ("c", "d", ""):
            with self.subTest(name), self.assertRaises(UnknownName):
                watch.best_minute(name)

    def test_it_changes_nothing(self):
        watch = Lateness(news_listing(), "one")
        for _ in range(2):
            self.assertEqual([watch.best_minute("a"), watch.surely_on("a")], [11, (13, 20)])
        self.assertEqual((watch.delays, watch.calls), ((0, 1, 2, 3), []))

    def test_the_latest_minutes(self):
        watch = of_one(10 ** 6, 10 ** 6 + 600, 60)
        self.assertEqual(watch.best_minute("a"), 10 ** 6 + 29)
        self.assertEqual(watch.on_air("a", 10 ** 6 + 659), 1)
        self.assertEqual(watch.delays, (60,))


class ReferenceTest(unittest.TestCase):
    def test_as_the_document_tells_it(self):
        """Told minute by minute, for many listings and calls."""
        chance = random.Random(20)
        for _ in range(150):
            listing = random_listing(chance)
            names = listing.names
            if not names:
                continue
            watch = Lateness(listing, "one")
            left = list(range(min(listing[name].late for name in names) + 1))
            calls = []
            for _ in range(6):
                name, minute = chance.choice(names), chance.randint(0, 80)
                word = chance.choice(("on_air", "silent"))
                begin, end = listing[name].begin, listing[name].end
                ways = {delay: set(range(begin + delay, end + delay)) for delay in left}
                common = set.intersection(*ways.values())
                self.assertEqual(watch.surely_on(name), (min(common), max(common) + 1) if common else None)
                worst = {at: max(sum(at in way for way in ways.values()), sum(at not in way for way in ways.values()))
                         for at in range(0, 200)}
                best = min(worst, key=lambda at: (worst[at], at))
                self.assertEqual(watch.best_minute(name), best if worst[best] < len(left) else None)
                then = [delay for delay in left if (minute in ways[delay]) == (word == "on_air")]
                if then:
                    left = then
                    calls.append((word, name, minute))
                    self.assertEqual(getattr(watch, word)(name, minute), len(left))
                else:
                    with self.assertRaises(NoDelay):
                        getattr(watch, word)(name, minute)
                self.assertEqual((watch.delays, watch.calls), (tuple(left), calls))


if __name__ == "__main__":
    unittest.main()
