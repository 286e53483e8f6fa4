"""Point 28: listings as lists of integers."""

import random
import unittest

from fewtuners.codec import decode_listing, encode_listing
from fewtuners.errors import DecodeError, InvalidSending
from fewtuners.listings import Listing, Sending
from tests.samples import ODD_VALUES, document_listing, letters, news_listing, random_listing

LETTERS = "abcdefghijklmnopqrstuvwxyz"
CODE = [102, 1, 1, 0, 1, 1, 1, 2, 0, 1, 0, 0, 0, 0, 1, 44, 0, 84]


def summed(items):
    """Return the list with the checksum behind it."""
    total = 6
    for item in items:
        total = (23 * total + item) % 239
    return [*items, total]


def code_of(*rows):
    """Return the code of sendings (name, channel, show, episode, begin, end, late), right or not."""
    items = [102, len(rows)]
    for name, channel, show, episode, begin, end, late in rows:
        for word in (name, channel, show):
            items += [len(word), *map(LETTERS.index, word)]
        items += [*episode.to_bytes(2, "big"), *begin.to_bytes(3, "big"), *end.to_bytes(3, "big"), late]
    return summed(items)


class EncodeListingTest(unittest.TestCase):
    def test_the_document(self):
        self.assertEqual(encode_listing(Listing({"a": Sending("b", "c", 1, 0, 300)})), CODE)

    def test_nothing(self):
        self.assertEqual(encode_listing(Listing({})), [102, 0, (23 * ((23 * 6 + 102) % 239)) % 239])
        self.assertEqual(encode_listing(Listing({})), [102, 0, 23])

    def test_names_ascend(self):
        listing = Listing({"b": Sending("c", "d", 1, 0, 1), "ab": Sending("e", "f", 2, 3, 4, 5)})
        self.assertEqual(encode_listing(listing), summed([
            102, 2,
            2, 0, 1, 1, 4, 1, 5, 0, 2, 0, 0, 3, 0, 0, 4, 5,
            1, 1, 1, 2, 1, 3, 0, 1, 0, 0, 0, 0, 0, 1, 0,
        ]))

    def test_the_greatest_of_all(self):
        listing = Listing({"zzzzzzzz": Sending("abcdefgh", "z", 999, 10 ** 6, 10 ** 6 + 600, 60)})
        self.assertEqual(encode_listing(listing), summed([
            102, 1, 8, *[25] * 8, 8, *range(8), 1, 25, 3, 231, 15, 66, 64, 15, 68, 152, 60,
        ]))

    def test_numbers_of_two_and_of_three_items(self):
        for number, items in ((1, [0, 1]), (255, [0, 255]), (256, [1, 0]), (257, [1, 1]), (999, [3, 231])):
            code = encode_listing(Listing({"a": Sending("b", "c", number, 0, 300)}))
            self.assertEqual(code[8:10], items)
        for number, items in ((255, [0, 0, 255]), (256, [0, 1, 0]), (65535, [0, 255, 255]), (65536, [1, 0, 0]),
                              (1000000, [15, 66, 64])):
            code = encode_listing(Listing({"a": Sending("b", "c", 1, number, 1000600)}))
            self.assertEqual(code[10:16], [*items, 15, 68, 152])

    def test_the_list_is_new(self):
        listing = document_listing()
        encode_listing(listing).clear()
        self.assertEqual(encode_listing(listing), encode_listing(document_listing()))
        self.assertEqual(listing, document_listing())

    def test_as_the_document_tells_it(self):
        chance = random.Random(28)
        listings = [random_listing(chance) for _ in range(50)]
        for listing in [document_listing(), news_listing(), Listing(letters(10)), *listings]:
            rows = [(name, one.channel, one.show, one.episode, one.begin, one.end, one.late)
                    for name, one in listing.sendings.items()]
            self.assertEqual(encode_listing(listing), code_of(*rows))


class DecodeListingTest(unittest.TestCase):
    def test_the_document(self):
        self.assertEqual(decode_listing(CODE), Listing({"a": Sending("b", "c", 1, 0, 300)}))

    def test_nothing(self):
        self.assertEqual(decode_listing([102, 0, 23]), Listing({}))

    def test_there_and_back(self):
        chance = random.Random(82)
        greatest = Listing({"zzzzzzzz": Sending("abcdefgh", "z", 999, 10 ** 6, 10 ** 6 + 600, 60)})
        for listing in [document_listing(), news_listing(), Listing(letters(10)), greatest]:
            self.assertEqual(decode_listing(encode_listing(listing)), listing)
        for _ in range(100):
            listing = random_listing(chance)
            code = encode_listing(listing)
            self.assertEqual(decode_listing(code), listing)
            self.assertEqual(encode_listing(decode_listing(code)), code)

    def test_the_list_stays_as_it_was(self):
        values = list(CODE)
        decode_listing(values)
        self.assertEqual(values, CODE)


class DecodeErrorTest(unittest.TestCase):
    def assert_offset(self, offset, values):
        with self.subTest(values), self.assertRaises(DecodeError) as caught:
            decode_listing(values)
        self.assertEqual(vars(caught.exception), {"offset": offset}, values)

    def assert_wrong(self, offset, code, *wrong):
        """Check that these values, and those that are no integers, are wrong at an offset, whatever is behind it."""
        for value in (*wrong, *ODD_VALUES, -1, 256, 10 ** 9, "a", "", 1.0, float(code[offset])):
            if value != code[offset] or not isinstance(value, int) or isinstance(value, bool):
                for behind in (code[offset + 1:], [], [None] * 30):
                    self.assert_offset(offset, [*code[:offset], value, *behind])

    def test_the_document(self):
        self.assert_offset(2, [102, 1, 9])

    def test_the_first_item(self):
        self.assert_wrong(0, CODE, 101, 103, 0)

    def test_the_number_of_sendings(self):
        self.assert_wrong(1, CODE, 11, 255)

    def test_numbers_of_letters(self):
        for offset in (2, 4, 6):
            self.assert_wrong(offset, CODE, 0, 9, 255)

    def test_letters(self):
        for offset in (3, 5, 7):
            self.assert_wrong(offset, CODE, 26, 97, 255)
        code = encode_listing(Listing({"eightlet": Sending("eightlet", "eightlet", 1, 0, 1)}))
        for offset in (*range(3, 11), *range(12, 20), *range(21, 29)):
            self.assert_wrong(offset, code, 26)

    def test_items_of_numbers(self):
        for offset in range(8, 16):
            self.assert_wrong(offset, CODE)

    def test_late(self):
        self.assert_wrong(16, CODE, 61, 255)

    def test_all_items_of_the_second_sending(self):
        code = code_of(("a", "b", "c", 1, 0, 300, 0), ("b", "b", "c", 1, 0, 300, 60))
        for offset in range(17, 31):
            self.assert_wrong(offset, code)
        self.assert_wrong(31, code, 61)

    def test_the_least_and_the_greatest_items(self):
        rows = [(name, "a", "z", 999, 0, 10 ** 6 + 600, 60) for name in ("a", "aa", "aaaaaaaa", "zzzzzzzz")]
        self.assertEqual(decode_listing(code_of(*rows)).names, ("a", "aa", "aaaaaaaa", "zzzzzzzz"))

    def test_a_name_that_is_not_greater(self):
        rest = ("b", "c", 1, 0, 300, 0)
        for one, other in (("a", "a"), ("b", "a"), ("ab", "a"), ("ab", "aa"), ("b", "abcdefgh"), ("zz", "zz")):
            code = code_of((one, *rest), (other, *rest))
            offset = 16 + len(one)
            self.assertEqual(code[offset], len(other))
            self.assert_offset(offset, code)
            # As soon as the name is read, and not earlier.
            self.assert_offset(offset, code[:offset + 1 + len(other)])
            self.assert_offset(offset, [*code[:offset + 1 + len(other)], 77, 77])
            self.assert_offset(offset + len(other), code[:offset + len(other)])
            self.assert_offset(offset + len(other), [*code[:offset + len(other)], 26, 77])
        self.assertEqual(decode_listing(code_of(("a", *rest), ("aa", *rest), ("b", *rest))).names, ("a", "aa", "b"))

    def test_the_name_ahead_not_the_first_one(self):
        rest = ("b", "c", 1, 0, 300, 0)
        self.assert_offset(2 + 15 + 15, code_of(("a", *rest), ("c", *rest), ("b", *rest)))

    def test_a_wrong_checksum(self):
        self.assert_wrong(17, CODE, 83, 85, 0, 84 + 239, 84 - 239)
        self.assert_wrong(2, [102, 0, 23], 22, 24, 23 + 239)
        self.assert_offset(17, [*CODE[:16], 1, 84])
        self.assert_offset(17, [*CODE[:8], 0, 2, *CODE[10:]])

    def test_a_checksum_that_is_true(self):
        codes = [code_of(("a", "b", "c", 1, 0, end, 0)) for end in range(1, 300)]
        for last, value in ((1, True), (0, False)):
            code = [row for row in codes if row[-1] == last][0]
            self.assertEqual(len(decode_listing(code)), 1)
            self.assert_offset(17, [*code[:-1], value])

    def test_items_behind_the_checksum(self):
        for more in ([0], [84], [None], [1, 2, 3], ["a"]):
            self.assert_offset(18, CODE + more)
            self.assert_offset(3, [102, 0, 23, *more])
        self.assert_offset(17, [*CODE[:17], 85, 0])

    def test_missing_items(self):
        for code in (CODE, encode_listing(document_listing()), [102, 0, 23]):
            for many in range(len(code)):
                self.assert_offset(many, code[:many])

    def test_fewer_or_more_sendings_than_told(self):
        self.assert_offset(17, summed([102, 2, *CODE[2:17]]) + [0] * 20)
        self.assert_offset(18, [102, 2, *CODE[2:17], 1])
        self.assert_offset(2, summed([102, 0, *CODE[2:17]]))


class InvalidSendingTest(unittest.TestCase):
    def assert_part(self, part, *rows):
        with self.assertRaises(InvalidSending) as caught:
            decode_listing(code_of(*rows))
        self.assertEqual(vars(caught.exception), {"part": part})

    def test_each_part_that_can_be_wrong(self):
        for numbers, part in (((0, 0, 1, 0), "episode"), ((1000, 0, 1, 0), "episode"), ((65535, 0, 1, 0), "episode"),
                              ((1, 10 ** 6 + 1, 10 ** 6 + 2, 0), "begin"), ((1, 256 ** 3 - 1, 0, 0), "begin"),
                              ((1, 5, 5, 0), "end"), ((1, 5, 4, 0), "end"), ((1, 5, 10 ** 6 + 601, 0), "end"),
                              ((0, 10 ** 7, 0, 60), "episode")):
            with self.subTest(numbers):
                self.assert_part(part, ("a", "b", "c", *numbers))
                good, other = ("a", "b", "c", 1, 0, 1, 0), ("c", "b", "c", 0, 0, 0, 0)
                self.assert_part(part, good, ("b", "b", "c", *numbers), other)

    def test_items_go_ahead(self):
        code = code_of(("a", "b", "c", 0, 5, 5, 0))
        for values, offset in (([*code[:-1], code[-1] + 1], 17), (code + [0], 18), (code[:-1], 17),
                               ([*code[:16], 61, 0], 16)):
            with self.assertRaises(DecodeError) as caught:
                decode_listing(values)
            self.assertEqual(caught.exception.offset, offset)

    def test_a_name_that_is_not_greater_goes_ahead(self):
        with self.assertRaises(DecodeError) as caught:
            decode_listing(code_of(("a", "b", "c", 0, 5, 5, 0), ("a", "b", "c", 1, 0, 1, 0)))
        self.assertEqual(caught.exception.offset, 17)


if __name__ == "__main__":
    unittest.main()
