"""The examples in the document's interface."""

import unittest

from fewtuners.books import Book, Rule
from fewtuners.changing import changes, shifted
from fewtuners.choices import best_choice, busiest, fewest_best, fewest_own, seated
from fewtuners.codec import decode_listing, encode_listing
from fewtuners.daybooks import Daybook
from fewtuners.delays import least_more, surely_whole, whole
from fewtuners.disks import least_disk, on_disk, round_of, rounds
from fewtuners.errors import (
    DaybookError, DecodeError, InvalidBooks, InvalidDelay, InvalidOperation, InvalidRow, InvalidRows, InvalidSending,
    InvalidSpan, UnknownChannel,
)
from fewtuners.guessing import fewest_listings, next_listing
from fewtuners.hours import busy_minutes, free_receiver, longest_pause
from fewtuners.lateness import Lateness
from fewtuners.listings import Listing, Sending
from fewtuners.notation import format_book, parse_book
from fewtuners.people import fair_choice, wishers
from fewtuners.plans import in_the_way, is_plan, lost, own_plan
from fewtuners.pools import difference, judged, possible_books
from fewtuners.recorders import Recorder
from fewtuners.steady import steady_choice
from fewtuners.tables import table
from fewtuners.wishing import overlaps, sendings_of, window, wishes
from tests.samples import document_book, document_listing, news_book, news_listing


class ExamplesTest(unittest.TestCase):
    def test_listings(self):
        listing = document_listing()
        self.assertEqual(
            [listing.names, listing["bee"].end, listing.only(("cat", "ant")).names, "dog" in listing],
            [("ant", "bee", "cat"), 50, ("ant", "cat"), False],
        )

    def test_a_sending_without_minutes(self):
        with self.assertRaises(InvalidSending) as caught:
            Sending("one", "news", 1, 30, 30)
        self.assertEqual(vars(caught.exception), {"part": "end"})

    def test_wishing(self):
        book, listing = document_book(), document_listing()
        told = [wishes(book, listing), sendings_of(book, listing, ("news", 1))]
        self.assertEqual(
            told + [window(book, listing, "ant"), overlaps(book, listing, "ant")],
            [[("news", 1), ("quiz", 1)], ["ant", "cat"], (0, 32), ["bee"]],
        )

    def test_plans(self):
        book, listing = document_book(), document_listing()
        told = [own_plan(book, listing, 1), own_plan(book, listing, 2)]
        told.append(is_plan(book, listing, 1, {"cat": 0, "bee": 0}))
        self.assertEqual(
            told + [lost(book, listing, 1), in_the_way(book, listing, 1, ("quiz", 1))],
            [{"ant": 0}, {"ant": 0, "bee": 1}, True, [("quiz", 1)], {"bee": [["ant"]]}],
        )

    def test_choices(self):
        book, listing = document_book(), document_listing()
        told = [best_choice(book, listing, 1), seated(book, listing, ("ant", "bee"))]
        self.assertEqual(
            told + [fewest_own(book, listing), fewest_best(book, listing), busiest(book, listing, ("ant", "bee"))],
            [(8, ("bee", "cat")), {"ant": 0, "bee": 1}, 2, 1, (25, ("ant", "bee"))],
        )

    def test_delays(self):
        book, listing = document_book(), document_listing()
        told = [whole(book, listing, {"ant": 0}, {"ant": 2}), whole(book, listing, {"ant": 0}, {"ant": 3})]
        self.assertEqual(
            told + [surely_whole(book, listing, {"ant": 0, "cat": 0}), least_more(book, listing, 2)],
            [["ant"], [], ["cat"], 1],
        )

    def test_a_delay_that_cannot_be(self):
        with self.assertRaises(InvalidDelay) as caught:
            whole(document_book(), document_listing(), {"ant": 0}, {"bee": 2})
        self.assertEqual(vars(caught.exception), {"name": "bee"})

    def test_disks(self):
        book, listing = document_book(), document_listing()
        told = [on_disk(book, listing, 2, 40, ("ant",)), on_disk(book, listing, 2, 40, ())]
        told.append(least_disk(book, listing, 2, ("ant",)))
        self.assertEqual(
            told + [rounds(book, listing, 1), round_of(book, listing, 1, ("quiz", 1))],
            [(["ant"], [], ["bee"]), (["bee"], ["ant"], []), 57, [{"ant": 0}, {"bee": 0}], 1],
        )

    def test_pools(self):
        book, listing = document_book(), document_listing()
        other = Book((Rule("quiz", 1, 1, 3), Rule("news", 1, 9, 1, 0, 2)))
        log = [(listing, 1, ("bee",))]
        self.assertEqual(
            [difference(book, other, listing, 1), possible_books(book.rules, 2, log), judged(book.rules, 2, log, 0)],
            [("ant", "bee"), [(1,)], "never"],
        )

    def test_changing(self):
        listing, book = news_listing(), news_book()
        other = listing.only(("a", "b")).with_sending("d", Sending("two", "quiz", 2, 60, 70))
        self.assertEqual(
            [changes(listing, other), shifted(book, listing, other, 1)],
            [[("gone", "c"), ("new", "d")], ([("quiz", 2)], [("news", 1)])],
        )

    def test_steady(self):
        listing, book = news_listing(), news_book()
        self.assertEqual(
            [steady_choice(book, listing, 1, ("a",)), steady_choice(book, listing, 2, ("a",))],
            [(1, 2, ("a",)), (1, 5, ("a", "b"))],
        )

    def test_people(self):
        books = [Book((Rule("news", 1, 9, 1),)), Book((Rule("quiz", 1, 9, 1),))]
        self.assertEqual(
            [wishers(books, news_listing(), "b"), fair_choice(books, news_listing(), 1)],
            [[1], ((1, 1), ("b", "c"))],
        )

    def test_no_people(self):
        with self.assertRaises(InvalidBooks) as caught:
            wishers([], Listing({}), "a")
        self.assertEqual(vars(caught.exception), {"index": 0})

    def test_lateness(self):
        watch = Lateness(news_listing(), "one")
        self.assertEqual(
            [watch.best_minute("a"), watch.on_air("a", 11), watch.surely_on("b"), watch.delays],
            [11, 2, (16, 30), (0, 1)],
        )

    def test_no_such_channel(self):
        with self.assertRaises(UnknownChannel) as caught:
            Lateness(Listing({}), "one")
        self.assertEqual(vars(caught.exception), {})

    def test_guessing(self):
        pool, listing = (Rule("news", 1, 1, 1), Rule("quiz", 1, 1, 1)), news_listing()
        rows = [(listing.only(("a",)), 1), (listing.only(("a", "b")), 1)]
        self.assertEqual([next_listing(pool, 1, [], rows), fewest_listings(pool, 1, [], rows)], [1, 1])

    def test_a_row_without_receivers(self):
        with self.assertRaises(InvalidRows) as caught:
            next_listing((), 1, [], [(Listing({}), 0)])
        self.assertEqual(vars(caught.exception), {"index": 0})

    def test_hours(self):
        book, listing = news_book(), news_listing()
        told = [busy_minutes(book, listing, 1), free_receiver(book, listing, 1, 30, 40)]
        told.append(free_receiver(book, listing, 1, 29, 31))
        self.assertEqual(told + [longest_pause(book, listing, 1, 0, 60)], [[25], 0, None, (0, 15)])

    def test_a_span_without_minutes(self):
        with self.assertRaises(InvalidSpan) as caught:
            free_receiver(Book(()), Listing({}), 1, 5, 5)
        self.assertEqual(vars(caught.exception), {})

    def test_recorders(self):
        recorder = Recorder(news_book(), news_listing(), 1)
        told = recorder.apply_all([("mark", "x"), ("run", 30), ("wish", Rule("news", 1, 1, 5)), ("undo",)])
        self.assertEqual(
            [told, recorder.recorded, recorder.plan(), recorder.time, recorder.go("x"), recorder.time],
            [[False, 1, 1, True], ("b",), {"c": 0}, 30, 2, 0],
        )

    def test_an_operation_without_its_argument(self):
        with self.assertRaises(InvalidOperation) as caught:
            Recorder(Book(()), Listing({}), 1).apply_all([("undo",), ("run",)])
        self.assertEqual(vars(caught.exception), {"index": 1})

    def test_tables(self):
        told = [table(news_book(), news_listing(), 2), table(news_book(), Listing({}), 1)]
        self.assertEqual(told, ["0: b 15-30\n1: a 10-20", "0: -"])

    def test_notation(self):
        book = Book((Rule("news", 1, 9, 2, 1),), (("quiz", 3),))
        text = format_book(book, Listing({"a": Sending("one", "news", 1, 10, 20, 5)}))
        self.assertEqual(
            [text, parse_book(text)[0].seen],
            ["rule news 1 9 2 1 0\nseen quiz 3\nsending a one news 1 10 20 5", (("quiz", 3),)],
        )

    def test_a_rule_behind_what_was_seen(self):
        with self.assertRaises(InvalidRow) as caught:
            parse_book("seen quiz 3\nrule news 1 9 2 1 0")
        self.assertEqual(vars(caught.exception), {"row": 1, "word": 0})

    def test_codec(self):
        code = encode_listing(Listing({"a": Sending("b", "c", 1, 0, 300)}))
        self.assertEqual(
            [code, decode_listing(code).names],
            [[102, 1, 1, 0, 1, 1, 1, 2, 0, 1, 0, 0, 0, 0, 1, 44, 0, 84], ("a",)],
        )

    def test_a_name_of_nine_letters(self):
        with self.assertRaises(DecodeError) as caught:
            decode_listing([102, 1, 9])
        self.assertEqual(vars(caught.exception), {"offset": 2})

    def test_daybooks(self):
        rows = ["rule news 1 9 2 0 0", "sending a one news 1 10 20 0", "recorder 1", "plan", "add b one news 2 15 30 0",
                "lost", "run 20", "recorded"]
        book = Daybook("\n".join(rows))
        self.assertEqual([book.results, book.recorder().recorded], ["a 0\n1\nnews 2\n1\na", ("a",)])

    def test_an_entry_that_cannot_be(self):
        with self.assertRaises(DaybookError) as caught:
            Daybook("recorder 1\ndrop a")
        self.assertEqual(vars(caught.exception), {"row": 1, "word": 0})


if __name__ == "__main__":
    unittest.main()
