"""Points 2 and 3: sendings and listings."""

import unittest

from fewtuners.errors import InvalidListing, InvalidSending, UnknownName
from fewtuners.listings import Listing, Sending
from tests.samples import ODD_VALUES, document_listing, letters, sending

GOOD_WORDS = ("a", "z", "az", "abcdefgh", "zzzzzzzz")
BAD_WORDS = ("", "abcdefghi", "News", "newS", "new1", "1", "a b", " a", "a ", "a-b", "a\n", "\u00e9", "\u00df", "`", "{")


class SendingTest(unittest.TestCase):
    def assert_part(self, part, **parts):
        with self.assertRaises(InvalidSending) as caught:
            sending(**parts)
        self.assertEqual(caught.exception.part, part)

    def test_properties(self):
        told = Sending("one", "quiz", 7, 20, 50, 4)
        self.assertEqual(
            (told.channel, told.show, told.episode, told.begin, told.end, told.late),
            ("one", "quiz", 7, 20, 50, 4),
        )

    def test_parameters_by_name(self):
        told = Sending(late=4, end=50, begin=20, episode=7, show="quiz", channel="one")
        self.assertEqual(told, Sending("one", "quiz", 7, 20, 50, 4))

    def test_late_left_out(self):
        self.assertEqual(Sending("one", "quiz", 7, 20, 50).late, 0)

    def test_properties_cannot_be_assigned(self):
        told = sending()
        for part in ("channel", "show", "episode", "begin", "end", "late"):
            with self.subTest(part), self.assertRaises(AttributeError):
                setattr(told, part, 1)

    def test_good_words(self):
        for word in GOOD_WORDS:
            with self.subTest(word):
                self.assertEqual(sending(channel=word).channel, word)
                self.assertEqual(sending(show=word).show, word)

    def test_bad_words(self):
        for word in BAD_WORDS:
            with self.subTest(word):
                self.assert_part("channel", channel=word)
                self.assert_part("show", show=word)

    def test_least_and_greatest(self):
        for parts in (
            {"episode": 1},
            {"episode": 999},
            {"begin": 0, "end": 1},
            {"begin": 10 ** 6, "end": 10 ** 6 + 1},
            {"begin": 0, "end": 10 ** 6 + 600},
            {"begin": 10 ** 6, "end": 10 ** 6 + 600},
            {"late": 0},
            {"late": 60},
        ):
            with self.subTest(parts):
                told = sending(**parts)
                self.assertEqual({part: getattr(told, part) for part in parts}, parts)

    def test_just_out_of_range(self):
        self.assert_part("episode", episode=0)
        self.assert_part("episode", episode=-1)
        self.assert_part("episode", episode=1000)
        self.assert_part("begin", begin=-1)
        self.assert_part("begin", begin=10 ** 6 + 1, end=10 ** 6 + 2)
        self.assert_part("end", begin=30, end=30)
        self.assert_part("end", begin=30, end=29)
        self.assert_part("end", begin=10 ** 6, end=10 ** 6 + 601)
        self.assert_part("end", begin=0, end=0)
        self.assert_part("late", late=-1)
        self.assert_part("late", late=61)

    def test_the_first_part_is_named(self):
        wrong = {"channel": "", "show": "", "episode": 0, "begin": -1, "end": -5, "late": 61}
        for part in ("channel", "show", "episode", "begin", "end", "late"):
            with self.subTest(part):
                self.assert_part(part, **wrong)
            del wrong[part]

    def test_what_is_no_integer(self):
        self.assert_part("episode", episode=True)
        self.assert_part("begin", begin=False)
        self.assert_part("end", begin=0, end=True)
        self.assert_part("late", late=False)
        self.assert_part("episode", episode="1")
        self.assert_part("late", late=None)

    def test_a_part_of_any_kind_is_named_whatever_stands_behind_it(self):
        parts = ("channel", "show", "episode", "begin", "end", "late")
        for at, part in enumerate(parts):
            wrong = 3 if part in ("channel", "show") else "news"
            for value in (wrong, *ODD_VALUES):
                with self.subTest(part=part, value=value):
                    self.assert_part(part, **{part: value})
                    for behind in (*ODD_VALUES, 3, "news", -1):
                        self.assert_part(part, **{part: value}, **{other: behind for other in parts[at + 1:]})

    def test_a_number_out_of_range_is_named_whatever_stands_behind_it(self):
        for behind in (*ODD_VALUES, "news"):
            with self.subTest(behind):
                self.assert_part("channel", channel="ninelette", show=behind, episode=behind, begin=behind, end=behind)
                self.assert_part("show", show="", episode=behind, begin=behind, end=behind, late=behind)
                self.assert_part("episode", episode=0, begin=behind, end=behind, late=behind)
                self.assert_part("begin", begin=-1, end=behind, late=behind)
                self.assert_part("end", end=0, late=behind)

    def test_equal(self):
        self.assertTrue(sending() == sending())
        self.assertFalse(sending() != sending())
        self.assertTrue(sending() == sending(late=0))

    def test_unequal_in_one_part(self):
        for parts in (
            {"channel": "two"}, {"show": "quiz"}, {"episode": 2}, {"begin": 1}, {"end": 31}, {"late": 1},
        ):
            with self.subTest(parts):
                self.assertFalse(sending() == sending(**parts))
                self.assertTrue(sending() != sending(**parts))

    def test_unequal_to_other_values(self):
        for other in (None, 1, "news", ("one", "news", 1, 0, 30, 0), Listing({})):
            with self.subTest(other):
                self.assertFalse(sending() == other)


class ListingTest(unittest.TestCase):
    def assert_name(self, name, call, *arguments):
        with self.assertRaises(InvalidListing) as caught:
            call(*arguments)
        self.assertEqual(caught.exception.name, name)

    def test_no_sending(self):
        listing = Listing({})
        self.assertEqual((listing.names, listing.sendings, len(listing)), ((), {}, 0))

    def test_ten_sendings(self):
        listing = Listing(letters(10))
        self.assertEqual(listing.names, tuple("abcdefghij"))
        self.assertEqual(len(listing), 10)

    def test_the_eleventh_name_is_named(self):
        self.assert_name("k", Listing, letters(11))
        self.assert_name("k", Listing, letters(13))
        self.assert_name("k", Listing, dict(reversed(list(letters(13).items()))))

    def test_the_first_name_that_is_no_word_is_named(self):
        for word in BAD_WORDS:
            with self.subTest(word):
                self.assert_name(word, Listing, {"b": sending(), word: sending()})
        self.assert_name("B", Listing, {"b": sending(), "c1": sending(), "a": sending(), "B": sending()})
        self.assert_name("c1", Listing, {"d": sending(), "c2": sending(), "c1": sending(), "a": sending()})

    def test_a_name_that_is_no_text_is_named(self):
        for name in (3, None, True, b"a", ("a",)):
            with self.subTest(name):
                self.assert_name(name, Listing, {"b": sending(), name: sending(), "a": sending()})
                self.assert_name(name, Listing, {**letters(12), name: sending()})
                self.assert_name(name, document_listing().with_sending, name, sending())

    def test_no_word_goes_ahead_of_too_many(self):
        self.assert_name("z1", Listing, {**letters(12), "z1": sending()})
        self.assert_name("z1", Listing, {**letters(12), "z2": sending(), "z1": sending()})
        self.assert_name("", Listing, {**letters(12), "": sending()})

    def test_good_names(self):
        self.assertEqual(Listing({word: sending() for word in GOOD_WORDS}).names, ("a", "abcdefgh", "az", "z", "zzzzzzzz"))

    def test_names_ascend(self):
        listing = Listing({"cat": sending(), "ant": sending(), "b": sending(), "bee": sending(), "an": sending()})
        self.assertEqual(listing.names, ("an", "ant", "b", "bee", "cat"))

    def test_sendings_in_order(self):
        listing = Listing({"cat": sending(begin=3), "ant": sending(begin=1), "bee": sending(begin=2)})
        self.assertEqual(
            list(listing.sendings.items()),
            [("ant", sending(begin=1)), ("bee", sending(begin=2)), ("cat", sending(begin=3))],
        )

    def test_properties_cannot_be_assigned(self):
        listing = document_listing()
        for name in ("names", "sendings"):
            with self.subTest(name), self.assertRaises(AttributeError):
                setattr(listing, name, {})

    def test_the_dict_handed_in_is_not_kept(self):
        sendings = {"b": sending(), "a": sending(begin=1)}
        listing = Listing(sendings)
        self.assertEqual(list(sendings), ["b", "a"])
        sendings["c"] = sending()
        sendings["a"] = sending(begin=2)
        del sendings["b"]
        self.assertEqual(listing.sendings, {"a": sending(begin=1), "b": sending()})

    def test_the_dict_returned_is_not_kept(self):
        listing = Listing({"a": sending()})
        returned = listing.sendings
        returned["b"] = sending()
        del returned["a"]
        self.assertEqual(listing.sendings, {"a": sending()})
        self.assertEqual(listing.names, ("a",))

    def test_item(self):
        listing = document_listing()
        self.assertEqual(listing["bee"], Sending("two", "quiz", 1, 25, 50, 1))
        for name in ("dog", "", "Ant", "an"):
            with self.subTest(name), self.assertRaises(UnknownName):
                listing[name]
        with self.assertRaises(UnknownName):
            Listing({})["ant"]

    def test_in(self):
        listing = document_listing()
        self.assertIs("ant" in listing, True)
        self.assertIs("dog" in listing, False)
        self.assertIs("" in listing, False)
        self.assertIs("ant" not in listing, False)

    def test_len(self):
        self.assertEqual(len(document_listing()), 3)

    def test_equal(self):
        one = Listing({"a": sending(), "b": sending(begin=1)})
        self.assertTrue(one == Listing({"b": sending(begin=1), "a": sending()}))
        self.assertFalse(one != Listing({"b": sending(begin=1), "a": sending()}))
        self.assertTrue(Listing({}) == Listing({}))

    def test_unequal(self):
        one = Listing({"a": sending(), "b": sending(begin=1)})
        for other in (
            Listing({}),
            Listing({"a": sending()}),
            Listing({"a": sending(), "c": sending(begin=1)}),
            Listing({"a": sending(), "b": sending(begin=2)}),
            Listing({"a": sending(begin=1), "b": sending()}),
            {"a": sending(), "b": sending(begin=1)},
            None,
        ):
            with self.subTest(other):
                self.assertFalse(one == other)
                self.assertTrue(one != other)

    def test_iterating_raises(self):
        for listing in (Listing({}), document_listing()):
            for call in (iter, list, tuple, sorted, set, lambda rows: [row for row in rows]):
                with self.subTest(call), self.assertRaises(TypeError):
                    call(listing)

    def test_with_sending_of_a_new_name(self):
        one = Listing({"a": sending(), "c": sending()})
        other = one.with_sending("b", sending(begin=1))
        self.assertEqual(other, Listing({"a": sending(), "b": sending(begin=1), "c": sending()}))
        self.assertEqual(other.names, ("a", "b", "c"))
        self.assertEqual(one, Listing({"a": sending(), "c": sending()}))

    def test_with_sending_of_a_name_that_is_there(self):
        one = Listing(letters(10))
        other = one.with_sending("b", sending(begin=5))
        self.assertEqual(other, Listing({**letters(10), "b": sending(begin=5)}))
        self.assertEqual(one, Listing(letters(10)))

    def test_with_sending_of_no_word(self):
        one = Listing(letters(10))
        for word in BAD_WORDS:
            with self.subTest(word):
                self.assert_name(word, Listing({}).with_sending, word, sending())
                self.assert_name(word, one.with_sending, word, sending())
        self.assertEqual(one, Listing(letters(10)))

    def test_with_an_eleventh_sending(self):
        one = Listing(letters(10))
        self.assert_name("k", one.with_sending, "k", sending())
        self.assert_name("j", one.with_sending, "aa", sending())
        self.assertEqual(one, Listing(letters(10)))

    def test_only(self):
        one = document_listing()
        self.assertEqual(one.only(()), Listing({}))
        self.assertEqual(one.only(("ant", "bee", "cat")), one)
        self.assertEqual(one.only(("cat", "ant")), Listing({"ant": one["ant"], "cat": one["cat"]}))
        self.assertEqual(one.only(("cat", "ant", "cat")).names, ("ant", "cat"))
        self.assertEqual(one.only(["bee"]), Listing({"bee": one["bee"]}))
        self.assertEqual(one, document_listing())

    def test_only_of_an_unknown_name(self):
        one = document_listing()
        for names in (("dog",), ("ant", "dog"), ("dog", "ant"), ("",), ("ant", "cat", "bee", "Bee")):
            with self.subTest(names), self.assertRaises(UnknownName):
                one.only(names)
        self.assertEqual(one, document_listing())


if __name__ == "__main__":
    unittest.main()
