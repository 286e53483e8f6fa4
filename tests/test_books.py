"""Point 4: rules and books."""

import unittest

from fewtuners.books import Book, Rule
from fewtuners.errors import InvalidBook, InvalidRule
from tests.samples import ODD_VALUES, rule


class RuleTest(unittest.TestCase):
    def assert_part(self, part, **parts):
        with self.assertRaises(InvalidRule) as caught:
            rule(**parts)
        self.assertEqual(caught.exception.part, part)

    def test_properties(self):
        told = Rule("quiz", 2, 8, 3, 4, 5)
        self.assertEqual(
            (told.show, told.first, told.last, told.priority, told.before, told.after),
            ("quiz", 2, 8, 3, 4, 5),
        )

    def test_parameters_by_name(self):
        told = Rule(after=5, before=4, priority=3, last=8, first=2, show="quiz")
        self.assertEqual(told, Rule("quiz", 2, 8, 3, 4, 5))

    def test_padding_left_out(self):
        told = Rule("quiz", 2, 8, 3)
        self.assertEqual((told.before, told.after), (0, 0))
        self.assertEqual((Rule("quiz", 2, 8, 3, 4).before, Rule("quiz", 2, 8, 3, 4).after), (4, 0))

    def test_properties_cannot_be_assigned(self):
        told = rule()
        for part in ("show", "first", "last", "priority", "before", "after"):
            with self.subTest(part), self.assertRaises(AttributeError):
                setattr(told, part, 1)

    def test_words(self):
        for word in ("a", "z", "abcdefgh"):
            self.assertEqual(rule(show=word).show, word)
        for word in ("", "abcdefghi", "News", "new1", "a b", "a\n", "\u00e9"):
            with self.subTest(word):
                self.assert_part("show", show=word)

    def test_least_and_greatest(self):
        for parts in (
            {"first": 1, "last": 1},
            {"first": 999, "last": 999},
            {"first": 1, "last": 999},
            {"priority": 1},
            {"priority": 9},
            {"before": 0},
            {"before": 60},
            {"after": 0},
            {"after": 60},
        ):
            with self.subTest(parts):
                told = rule(**parts)
                self.assertEqual({part: getattr(told, part) for part in parts}, parts)

    def test_just_out_of_range(self):
        self.assert_part("first", first=0)
        self.assert_part("first", first=-1)
        self.assert_part("first", first=1000, last=1000)
        self.assert_part("last", first=1, last=0)
        self.assert_part("last", first=5, last=4)
        self.assert_part("last", first=999, last=998)
        self.assert_part("last", last=1000)
        self.assert_part("priority", priority=0)
        self.assert_part("priority", priority=10)
        self.assert_part("before", before=-1)
        self.assert_part("before", before=61)
        self.assert_part("after", after=-1)
        self.assert_part("after", after=61)

    def test_the_first_part_is_named(self):
        wrong = {"show": "", "first": 0, "last": -1, "priority": 0, "before": -1, "after": 61}
        for part in ("show", "first", "last", "priority", "before", "after"):
            with self.subTest(part):
                self.assert_part(part, **wrong)
            del wrong[part]

    def test_a_boolean_is_no_integer(self):
        for part in ("first", "last", "priority", "before", "after"):
            with self.subTest(part):
                self.assert_part(part, **{part: True})

    def test_a_part_of_any_kind_is_named_whatever_stands_behind_it(self):
        parts = ("show", "first", "last", "priority", "before", "after")
        for at, part in enumerate(parts):
            wrong = 3 if part == "show" else "news"
            for value in (wrong, *ODD_VALUES):
                with self.subTest(part=part, value=value):
                    self.assert_part(part, **{part: value})
                    for behind in (*ODD_VALUES, 3, "news", -1):
                        self.assert_part(part, **{part: value}, **{other: behind for other in parts[at + 1:]})

    def test_a_number_out_of_range_is_named_whatever_stands_behind_it(self):
        for behind in (*ODD_VALUES, "news"):
            with self.subTest(behind):
                self.assert_part("show", show="ninelette", first=behind, last=behind, priority=behind, before=behind)
                self.assert_part("first", first=0, last=behind, priority=behind, before=behind, after=behind)
                self.assert_part("last", first=5, last=4, priority=behind, before=behind, after=behind)
                self.assert_part("priority", priority=10, before=behind, after=behind)
                self.assert_part("before", before=61, after=behind)

    def test_equal(self):
        self.assertTrue(rule() == rule(before=0, after=0))
        self.assertFalse(rule() != rule())

    def test_unequal_in_one_part(self):
        for parts in (
            {"show": "quiz"}, {"first": 2}, {"last": 8}, {"priority": 4}, {"before": 1}, {"after": 1},
        ):
            with self.subTest(parts):
                self.assertFalse(rule() == rule(**parts))
                self.assertTrue(rule() != rule(**parts))

    def test_unequal_to_other_values(self):
        for other in (None, 1, "news", ("news", 1, 9, 5, 0, 0), Book(())):
            with self.subTest(other):
                self.assertFalse(rule() == other)


class BookTest(unittest.TestCase):
    def test_no_rule(self):
        book = Book(())
        self.assertEqual((book.rules, book.seen), ((), ()))
        self.assertIsNone(book.rule_of("news", 1))

    def test_six_rules(self):
        rules = tuple(rule(priority=at) for at in range(1, 7))
        self.assertEqual(Book(rules).rules, rules)

    def test_more_rules(self):
        for many in (7, 8, 20):
            with self.subTest(many), self.assertRaises(InvalidBook):
                Book((rule(),) * many)
        with self.assertRaises(InvalidBook):
            Book((rule(),) * 7, (("news", 1),))

    def test_properties(self):
        book = Book((rule(), rule(show="quiz")), (("news", 2), ("quiz", 1), ("news", 2)))
        self.assertEqual(book.rules, (rule(), rule(show="quiz")))
        self.assertEqual(book.seen, (("news", 2), ("quiz", 1), ("news", 2)))
        self.assertEqual(Book(seen=book.seen, rules=book.rules), book)

    def test_properties_cannot_be_assigned(self):
        for name in ("rules", "seen"):
            with self.subTest(name), self.assertRaises(AttributeError):
                setattr(Book(()), name, ())

    def test_arguments_are_not_kept(self):
        rules, seen = [rule()], [("news", 1)]
        book = Book(rules, seen)
        rules.append(rule(show="quiz"))
        seen.clear()
        self.assertEqual((book.rules, book.seen), ((rule(),), (("news", 1),)))

    def test_rule_of_takes_the_first_rule(self):
        one, two, three = rule(first=5, priority=1), rule(priority=9), rule(show="quiz", priority=8)
        book = Book((one, two, three, rule(priority=7)))
        self.assertEqual(book.rule_of("news", 5), one)
        self.assertEqual(book.rule_of("news", 4), two)
        self.assertEqual(book.rule_of("quiz", 5), three)

    def test_rule_of_from_the_first_episode_to_the_last(self):
        book = Book((rule(first=3, last=5),))
        found = [book.rule_of("news", episode) is not None for episode in range(1, 8)]
        self.assertEqual(found, [False, False, True, True, True, False, False])
        self.assertIsNone(book.rule_of("quiz", 4))

    def test_rule_of_an_episode_that_was_seen(self):
        book = Book((rule(), rule(priority=1)), (("quiz", 1), ("news", 2)))
        self.assertIsNone(book.rule_of("news", 2))
        self.assertEqual(book.rule_of("news", 1), rule())
        self.assertIsNone(book.rule_of("quiz", 1))

    def test_with_seen(self):
        book = Book((rule(),), (("news", 3),))
        more = book.with_seen((("news", 2), ("quiz", 9)))
        self.assertEqual(more.rules, (rule(),))
        self.assertEqual(more.seen, (("news", 3), ("news", 2), ("quiz", 9)))
        self.assertIsNone(more.rule_of("news", 2))
        self.assertEqual(book.seen, (("news", 3),))
        self.assertEqual(book.rule_of("news", 2), rule())

    def test_with_seen_of_episodes_that_are_there(self):
        book = Book((), (("news", 3), ("news", 1)))
        more = book.with_seen((("news", 3), ("news", 2), ("news", 2)))
        self.assertEqual(more.seen, (("news", 3), ("news", 1), ("news", 3), ("news", 2), ("news", 2)))

    def test_with_seen_of_no_episodes_and_of_a_list(self):
        book = Book((), (("news", 3),))
        episodes = [("news", 1)]
        more = book.with_seen(episodes)
        episodes.append(("news", 2))
        self.assertEqual(more.seen, (("news", 3), ("news", 1)))
        self.assertEqual(book.with_seen(()).seen, (("news", 3),))

    def test_repeated_calls_return_equal_books(self):
        book = Book((rule(),))
        self.assertTrue(book.with_seen((("news", 1),)) == book.with_seen((("news", 1),)))
        self.assertFalse(book.with_seen((("news", 1),)) == book)
        self.assertFalse(Book(()) == book)
        self.assertFalse(book == ((rule(),), ()))


if __name__ == "__main__":
    unittest.main()
