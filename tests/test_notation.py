"""Points 26 and 27: books and listings as texts."""

import unittest

from fewtuners.books import Book, Rule
from fewtuners.errors import InvalidBook, InvalidListing, InvalidRow, InvalidRule, InvalidSending
from fewtuners.listings import Listing, Sending
from fewtuners.notation import format_book, parse_book
from tests.samples import document_book, document_listing, letters, random_cases, rule

RULE = "rule news 1 9 2 1 0"
SEEN = "seen quiz 3"
SENDING = "sending a one news 1 10 20 5"

# Words that are no words of a show, a channel or a name.
NO_WORDS = ("", "ninelette", "News", "a1", "a-b", "7", "0", "\u00e9", "a\t", "\ta", "a\r", "-")

# Words that are no numbers of a row.
NO_NUMBERS = ("", "00", "01", "0000001", "12345678", "10000000", "-1", "+1", "1.0", "1e3", "a", "1a", "a1", "1_0",
              "0x1", "\u00b2", "\u0661", "\uff11", "1\r", "\t1", "1\t")


def sending_rows(many):
    """Return so many rows of sendings with ascending names."""
    return [f"sending {'abcdefghijklmnop'[at]} one news 1 {at} {at + 1} 0" for at in range(many)]


class FormatBookTest(unittest.TestCase):
    def test_the_document(self):
        book = Book((Rule("news", 1, 9, 2, 1),), (("quiz", 3),))
        listing = Listing({"a": Sending("one", "news", 1, 10, 20, 5)})
        self.assertEqual(format_book(book, listing), f"{RULE}\n{SEEN}\n{SENDING}")

    def test_nothing(self):
        self.assertEqual(format_book(Book(()), Listing({})), "")

    def test_one_kind_of_rows_alone(self):
        self.assertEqual(format_book(Book((Rule("news", 1, 9, 2, 1),)), Listing({})), RULE)
        self.assertEqual(format_book(Book((), (("quiz", 3),)), Listing({})), SEEN)
        self.assertEqual(format_book(Book(()), Listing({"a": Sending("one", "news", 1, 10, 20, 5)})), SENDING)

    def test_rules_and_seen_in_their_order_and_sendings_by_names(self):
        book = Book((Rule("z", 2, 3, 4, 5, 6), Rule("a", 1, 1, 1), Rule("z", 2, 3, 4, 5, 6)),
                    (("z", 9), ("a", 1), ("z", 9)))
        latest = Sending("two", "y", 999, 10 ** 6, 10 ** 6 + 600, 60)
        listing = Listing({"b": Sending("one", "x", 1, 0, 1), "ab": latest})
        self.assertEqual(format_book(book, listing).split("\n"), [
            "rule z 2 3 4 5 6", "rule a 1 1 1 0 0", "rule z 2 3 4 5 6", "seen z 9", "seen a 1", "seen z 9",
            "sending ab two y 999 1000000 1000600 60", "sending b one x 1 0 1 0",
        ])

    def test_repeated_calls(self):
        book, listing = document_book(), document_listing()
        self.assertEqual(format_book(book, listing), format_book(book, listing))
        self.assertEqual((book, listing), (document_book(), document_listing()))


class ParseBookTest(unittest.TestCase):
    def test_the_document(self):
        book, listing = parse_book(f"{RULE}\n{SEEN}\n{SENDING}")
        self.assertEqual(book.seen, (("quiz", 3),))
        self.assertEqual(book, Book((Rule("news", 1, 9, 2, 1),), (("quiz", 3),)))
        self.assertEqual(listing, Listing({"a": Sending("one", "news", 1, 10, 20, 5)}))

    def test_a_tuple(self):
        self.assertIsInstance(parse_book(""), tuple)
        self.assertIsInstance(parse_book(SEEN)[0].seen[0], tuple)

    def test_an_empty_text(self):
        self.assertEqual(parse_book(""), (Book(()), Listing({})))

    def test_one_kind_of_rows_alone(self):
        self.assertEqual(parse_book(RULE), (Book((Rule("news", 1, 9, 2, 1),)), Listing({})))
        self.assertEqual(parse_book(SEEN), (Book((), (("quiz", 3),)), Listing({})))
        self.assertEqual(parse_book(SENDING), (Book(()), Listing({"a": Sending("one", "news", 1, 10, 20, 5)})))
        self.assertEqual(parse_book(f"{RULE}\n{SENDING}")[1].names, ("a",))

    def test_several_rows_of_each_kind(self):
        text = "\n".join([RULE, "rule quiz 1 1 1 0 60", SEEN, SEEN, "seen a 1", *sending_rows(10)])
        book, listing = parse_book(text)
        self.assertEqual(book.rules, (Rule("news", 1, 9, 2, 1), Rule("quiz", 1, 1, 1, 0, 60)))
        self.assertEqual(book.seen, (("quiz", 3), ("quiz", 3), ("a", 1)))
        self.assertEqual(listing.names, tuple("abcdefghij"))

    def test_numbers_of_one_and_of_seven_digits(self):
        self.assertEqual(parse_book("seen a 0\nseen a 7\nseen a 10\nseen a 1000000\nseen a 9999999")[0].seen,
                         (("a", 0), ("a", 7), ("a", 10), ("a", 1000000), ("a", 9999999)))
        self.assertEqual(parse_book("sending a b c 1 1000000 1000600 0")[1]["a"],
                         Sending("b", "c", 1, 10 ** 6, 1000600))

    def test_words_of_one_and_of_eight_letters(self):
        self.assertEqual(parse_book("sending eightlet a eightlet 1 0 1 0")[1]["eightlet"],
                         Sending("a", "eightlet", 1, 0, 1))

    def test_there_and_back(self):
        for book, listing, _ in random_cases(100):
            text = format_book(book, listing)
            self.assertEqual(parse_book(text), (book, listing))
            self.assertEqual(format_book(*parse_book(text)), text)
        self.assertEqual(parse_book(format_book(document_book(), Listing(letters(10)))),
                         (document_book(), Listing(letters(10))))


class InvalidRowTest(unittest.TestCase):
    def assert_wrong(self, row, word, text):
        with self.subTest(text), self.assertRaises(InvalidRow) as caught:
            parse_book(text)
        self.assertEqual(vars(caught.exception), {"row": row, "word": word}, text)

    def test_the_document(self):
        self.assert_wrong(1, 0, "seen quiz 3\nrule news 1 9 2 1 0")

    def test_first_words(self):
        for word in ("", "Rule", "rules", "book", "recorder", "add", "seen\t", "7", "sendings"):
            self.assert_wrong(0, 0, word or " ")
            self.assert_wrong(0, 0, f"{word} news 1 9 2 1 0")
            self.assert_wrong(1, 0, f"{RULE}\n{word} news 1 9 2 1 0")

    def test_first_words_that_cannot_be_in_this_row(self):
        self.assert_wrong(1, 0, f"{SEEN}\n{RULE}")
        self.assert_wrong(1, 0, f"{SENDING}\n{RULE}")
        self.assert_wrong(1, 0, f"{SENDING}\n{SEEN}")
        self.assert_wrong(3, 0, f"{RULE}\n{SEEN}\n{SENDING}\n{SEEN}")
        self.assert_wrong(2, 0, f"{RULE}\n{SEEN}\n{RULE}\n{SENDING}")
        self.assert_wrong(1, 0, f"{SEEN}\nrule 7")

    def test_each_word_of_each_row(self):
        for kinds, row in (("wnnnnn", RULE), ("wn", SEEN), ("wwwnnnn", SENDING)):
            words = row.split(" ")
            for at, kind in enumerate(kinds, start=1):
                for wrong in NO_WORDS if kind == "w" else NO_NUMBERS:
                    text = " ".join([*words[:at], wrong, *words[at + 1:]])
                    self.assert_wrong(0, at, text)
                    self.assert_wrong(1, at, f"{row if row != SENDING else SEEN}\n{text}")
                    self.assert_wrong(0, at, f"{text}\n\n")

    def test_missing_words(self):
        for row in (RULE, SEEN, SENDING):
            words = row.split(" ")
            for many in range(1, len(words)):
                self.assert_wrong(0, many, " ".join(words[:many]))
                self.assert_wrong(0, many, " ".join(words[:many]) + "\nrule")

    def test_superfluous_words(self):
        for row in (RULE, SEEN, SENDING):
            for more in ("7", "a", "", "7 a", " "):
                self.assert_wrong(0, len(row.split(" ")), f"{row} {more}")

    def test_from_left_to_right(self):
        self.assert_wrong(0, 1, "rule News 01 9")
        self.assert_wrong(0, 2, "rule news 01 9 2 1 0 5")
        self.assert_wrong(0, 2, "seen quiz x y")
        self.assert_wrong(0, 7, "sending a one news 1 10 20 05 6")
        self.assert_wrong(0, 2, "sending a 1")

    def test_row_by_row(self):
        self.assert_wrong(0, 6, "rule news 1 9 2 1\nbook")
        self.assert_wrong(1, 2, f"{RULE}\nseen quiz\nseen 7")
        self.assert_wrong(2, 0, f"{RULE}\n{SEEN}\n{RULE}\nseen")

    def test_blanks(self):
        self.assert_wrong(0, 0, " ")
        self.assert_wrong(0, 0, f" {RULE}")
        self.assert_wrong(0, 7, f"{RULE} ")
        self.assert_wrong(0, 1, "rule  news 1 9 2 1 0")
        self.assert_wrong(0, 3, "rule news 1  9 2 1 0")
        self.assert_wrong(1, 2, f"{RULE}\nseen quiz  3")
        self.assert_wrong(0, 1, "seen quiz\t3")

    def test_empty_rows(self):
        self.assert_wrong(0, 0, "\n")
        self.assert_wrong(0, 0, f"\n{RULE}")
        self.assert_wrong(1, 0, f"{RULE}\n")
        self.assert_wrong(1, 0, f"{RULE}\n\n{RULE}")
        self.assert_wrong(1, 0, f"{SENDING}\n")

    def test_other_ends_of_lines(self):
        self.assert_wrong(0, 6, f"{RULE}\r\n{SEEN}")
        self.assert_wrong(0, 2, f"{SEEN}\r{SEEN}")
        self.assert_wrong(0, 2, f"{SEEN}\x0b")

    def test_a_name_that_is_not_greater(self):
        for names, row in ((("a", "a"), 1), (("b", "a"), 1), (("ab", "a"), 1), (("a", "ab", "aa"), 2),
                           (("a", "b", "a"), 2)):
            rows = [f"sending {name} one news 1 10 20 5" for name in names]
            self.assert_wrong(row, 1, "\n".join(rows))
            self.assert_wrong(row + 2, 1, "\n".join([RULE, SEEN, *rows]))
        self.assertEqual(parse_book("\n".join(f"sending {name} c s 1 0 1 0" for name in ("a", "ab", "b")))[1].names,
                         ("a", "ab", "b"))

    def test_a_name_that_is_not_greater_ahead_of_what_stands_behind_it(self):
        self.assert_wrong(1, 1, f"{SENDING}\nsending a 7")
        self.assert_wrong(1, 2, f"{SENDING}\nsending b 7")
        self.assert_wrong(1, 0, f"{SENDING}\nseen a")


class ErrorsTest(unittest.TestCase):
    def assert_error(self, error, attributes, *rows):
        with self.assertRaises(error) as caught:
            parse_book("\n".join(rows))
        self.assertEqual(vars(caught.exception), attributes)

    def test_rows_go_ahead_of_all(self):
        self.assert_error(InvalidRow, {"row": 2, "word": 7}, "rule news 0 9 2 1 0", "seen a 1", "sending a b c 1 5 5")
        self.assert_error(InvalidRow, {"row": 7, "word": 0}, *[RULE] * 7, "book")
        self.assert_error(InvalidRow, {"row": 11, "word": 1}, *sending_rows(11), "sending a b c 1 0 1 0")

    def test_invalid_rule(self):
        for row, part in (("rule news 0 9 2 1 0", "first"), ("rule news 5 4 2 1 0", "last"),
                          ("rule news 1 1000 2 1 0", "last"), ("rule news 1 9 10 61 61", "priority"),
                          ("rule news 1 9 0 0 0", "priority"), ("rule news 1 9 2 61 61", "before"),
                          ("rule news 1 9 2 60 61", "after"), ("rule news 9999999 9 2 1 0", "first")):
            self.assert_error(InvalidRule, {"part": part}, row)
            self.assert_error(InvalidRule, {"part": part}, RULE, row, "rule news 0 9 2 1 0", SEEN, SENDING)
            self.assert_error(InvalidRule, {"part": part}, *[RULE] * 7, row)
            self.assert_error(InvalidRule, {"part": part}, row, "sending a b c 0 5 5 0")

    def test_invalid_book(self):
        self.assertEqual(parse_book("\n".join([RULE] * 6))[0].rules, (Rule("news", 1, 9, 2, 1),) * 6)
        self.assert_error(InvalidBook, {}, *[RULE] * 7)
        self.assert_error(InvalidBook, {}, *[RULE] * 8, "sending a b c 0 5 5 0")
        self.assert_error(InvalidBook, {}, *[RULE] * 7, *sending_rows(11))

    def test_invalid_sending(self):
        for parts, part in (("0 1 2 0", "episode"), ("1000 1 2 0", "episode"), ("1 1000001 2 0", "begin"),
                            ("1 5 5 61", "end"), ("1 5 4 0", "end"), ("1 5 1000601 0", "end"), ("1 5 6 61", "late")):
            row = f"sending b two quiz {parts}"
            self.assert_error(InvalidSending, {"part": part}, row)
            self.assert_error(InvalidSending, {"part": part}, RULE, SEEN, SENDING, row, "sending c d e 0 1 2 0")
            rows = [f"sending {name} c s 1 0 1 0" for name in "cdefghijkl"]
            self.assert_error(InvalidSending, {"part": part}, SENDING, row, *rows)

    def test_invalid_listing(self):
        self.assertEqual(len(parse_book("\n".join(sending_rows(10)))[1]), 10)
        self.assert_error(InvalidListing, {"name": "k"}, *sending_rows(11))
        self.assert_error(InvalidListing, {"name": "k"}, RULE, SEEN, *sending_rows(13))

    def test_what_was_seen_may_be_any_episode(self):
        self.assertEqual(parse_book("seen a 0\nseen b 1000")[0].seen, (("a", 0), ("b", 1000)))
        self.assertEqual(format_book(Book((rule(),), (("b", 0),)), Listing({})), "rule news 1 9 5 0 0\nseen b 0")


if __name__ == "__main__":
    unittest.main()
