"""All points together: what they tell of one listing and book fits together."""

import unittest

from fewtuners.books import Book
from fewtuners.changing import changes, shifted
from fewtuners.choices import best_choice, busiest, fewest_best, fewest_own, seated
from fewtuners.codec import decode_listing, encode_listing
from fewtuners.daybooks import Daybook
from fewtuners.delays import least_more, surely_whole, whole
from fewtuners.disks import least_disk, on_disk, round_of, rounds
from fewtuners.guessing import fewest_listings, next_listing
from fewtuners.hours import busy_minutes, free_receiver, longest_pause
from fewtuners.lateness import Lateness
from fewtuners.listings import Listing
from fewtuners.notation import format_book, parse_book
from fewtuners.people import fair_choice, wishers
from fewtuners.plans import in_the_way, is_plan, lost, own_plan
from fewtuners.pools import difference, judged, possible_books
from fewtuners.recorders import Recorder, Trial
from fewtuners.steady import steady_choice
from fewtuners.tables import table
from fewtuners.wishing import overlaps, sendings_of, window, wishes
from tests.samples import document_book, document_listing, random_cases


def episodes(listing, names):
    return [(listing[name].show, listing[name].episode) for name in names]


def total(book, listing, names):
    return sum(book.rule_of(*episode).priority for episode in episodes(listing, names))


def cases(many=60):
    """Return the document's own case, by one receiver and by two, and many others."""
    return [(document_book(), document_listing(), receivers) for receivers in (1, 2)] + random_cases(many, 7)


class TogetherTest(unittest.TestCase):
    def test_wishes_are_recorded_or_lost(self):
        for book, listing, receivers in cases():
            plan = own_plan(book, listing, receivers)
            self.assertTrue(is_plan(book, listing, receivers, plan))
            recorded, gone = episodes(listing, plan), lost(book, listing, receivers)
            self.assertEqual([wish for wish in wishes(book, listing) if wish not in recorded], gone)
            self.assertEqual(sorted(recorded + gone), sorted(wishes(book, listing)))

    def test_what_is_in_the_way_overlaps(self):
        for book, listing, receivers in cases():
            plan = own_plan(book, listing, receivers)
            for wish in lost(book, listing, receivers):
                found = in_the_way(book, listing, receivers, wish)
                self.assertEqual(list(found), sendings_of(book, listing, wish))
                for name, rows in found.items():
                    for receiver, names in enumerate(rows):
                        self.assertLessEqual(set(names), set(overlaps(book, listing, name)))
                        self.assertEqual({plan[other] for other in names}, {receiver})

    def test_the_own_plan_is_a_choice_that_is_not_better_than_the_best(self):
        for book, listing, receivers in cases():
            plan = own_plan(book, listing, receivers)
            most, names = best_choice(book, listing, receivers)
            self.assertLessEqual(total(book, listing, plan), most)
            self.assertEqual(total(book, listing, names), most)
            own = tuple(plan)
            kept, worth, chosen = steady_choice(book, listing, receivers, own)
            self.assertEqual(kept, len(own))
            self.assertLessEqual(set(own), set(chosen))
            self.assertTrue(total(book, listing, own) <= worth <= most)
            if not lost(book, listing, receivers):
                self.assertEqual(chosen, own)
            self.assertEqual(steady_choice(book, listing, receivers, names), (len(names), most, names))

    def test_the_best_choice_can_be_seated(self):
        for book, listing, receivers in cases():
            names = best_choice(book, listing, receivers)[1]
            plan = seated(book, listing, names)
            self.assertTrue(is_plan(book, listing, receivers, plan))
            minute, crowd = busiest(book, listing, names)
            self.assertEqual(len(set(plan.values())), len(crowd))
            self.assertEqual(len({plan[name] for name in crowd}), len(crowd))
            for name in crowd:
                begin, end = window(book, listing, name)
                self.assertTrue(begin <= minute < end)

    def test_the_fewest_receivers(self):
        for book, listing, _ in cases():
            own, best = fewest_own(book, listing), fewest_best(book, listing)
            self.assertLessEqual(best, own)
            self.assertEqual(lost(book, listing, own), [])
            for many in range(1, own):
                self.assertNotEqual(lost(book, listing, many), [])
            wished = sorted(wishes(book, listing))
            self.assertEqual(sorted(episodes(listing, best_choice(book, listing, best)[1])), wished)
            if best > 1:
                self.assertNotEqual(sorted(episodes(listing, best_choice(book, listing, best - 1)[1])), wished)

    def test_surely_whole_is_whole_by_the_worst_delays(self):
        for book, listing, receivers in cases():
            plan = own_plan(book, listing, receivers)
            worst = {name: listing[name].late for name in listing.names}
            self.assertEqual(surely_whole(book, listing, plan), whole(book, listing, plan, worst))
            self.assertEqual(whole(book, listing, plan, {}), list(plan))
            more = least_more(book, listing, receivers)
            self.assertEqual(more == 0, surely_whole(book, listing, plan) == list(plan))

    def test_a_disk_that_refuses_nothing(self):
        for book, listing, receivers in cases():
            plan = own_plan(book, listing, receivers)
            for protected in ((), tuple(plan), listing.names[::2]):
                least = least_disk(book, listing, receivers, protected)
                kept, deleted, refused = on_disk(book, listing, receivers, least, protected)
                self.assertEqual((sorted(kept + deleted), refused), (list(plan), []))
                self.assertEqual(set(deleted) & set(protected), set())
                if least > 1:
                    self.assertNotEqual(on_disk(book, listing, receivers, least - 1, protected)[2], [])

    def test_rounds_record_each_wish_once(self):
        for book, listing, receivers in cases():
            found = rounds(book, listing, receivers)
            recorded = [episode for plan in found for episode in episodes(listing, plan)]
            self.assertEqual(sorted(recorded), sorted(wishes(book, listing)))
            self.assertEqual(len(found) <= 1, lost(book, listing, receivers) == [])
            for wish in wishes(book, listing):
                at = round_of(book, listing, receivers, wish)
                self.assertIn(wish, episodes(listing, found[at]))
                self.assertEqual(at == 0, wish not in lost(book, listing, receivers))

    def test_a_log_of_a_book_is_explained_by_its_rules(self):
        for book, listing, receivers in cases(20):
            book = Book(book.rules[:3])
            everything = tuple(range(len(book.rules)))
            log = [(listing, receivers, tuple(own_plan(book, listing, receivers)))]
            possible = possible_books(book.rules, 3, log)
            self.assertIn(everything, possible)
            for index in everything:
                self.assertNotEqual(judged(book.rules, 3, log, index), "never")
            for indexes in possible:
                other = Book(tuple(book.rules[index] for index in indexes))
                self.assertEqual(tuple(own_plan(other, listing, receivers)), log[0][2])
                names = difference(book, other, listing, receivers)
                if names is not None:
                    some = listing.only(names)
                    self.assertNotEqual(own_plan(book, some, receivers), own_plan(other, some, receivers))
            self.assertIsNone(difference(book, Book(book.rules), listing, receivers))

    def test_a_listing_that_loses_its_sendings(self):
        for book, listing, receivers in cases():
            plan = own_plan(book, listing, receivers)
            rest = listing.only(tuple(name for name in listing.names if name not in plan))
            self.assertEqual(changes(listing, rest), [("gone", name) for name in plan])
            self.assertEqual(changes(rest, listing), [("new", name) for name in plan])
            recorded = sorted(episodes(listing, plan))
            self.assertEqual(shifted(book, listing, Listing({}), receivers), ([], recorded))
            gained, missed = shifted(book, listing, rest, receivers)
            self.assertEqual(sorted(set(recorded) - set(missed) | set(gained)),
                             sorted(episodes(rest, own_plan(book, rest, receivers))))

    def test_four_people_with_the_same_book(self):
        for book, listing, receivers in cases(20):
            served, names = fair_choice([book] * 4, listing, receivers)
            self.assertEqual(served, (len(names),) * 4)
            self.assertEqual(fair_choice([book], listing, receivers), ((len(names),), names))
            self.assertGreaterEqual(len(names), len(own_plan(book, listing, receivers)))
            self.assertTrue(is_plan(book, listing, receivers, seated(book, listing, names)))
            for name in listing.names:
                wished = any(name in sendings_of(book, listing, wish) for wish in wishes(book, listing))
                self.assertEqual(wishers([book] * 4, listing, name), [0, 1, 2, 3] if wished else [])


LATEST = 1000660


class RecorderTest(unittest.TestCase):
    """What a recorder records is what its own plan tells, and so are its hours, texts and codes."""

    def test_one_run_records_the_own_plan(self):
        for book, listing, receivers in cases():
            recorder, plan = Recorder(book, listing, receivers), own_plan(book, listing, receivers)
            self.assertEqual(recorder.plan(), plan)
            self.assertEqual(recorder.run(LATEST), len(plan))
            self.assertEqual(sorted(recorder.recorded), list(plan))
            self.assertEqual(sorted(recorder.book().seen[len(book.seen):]), sorted(episodes(listing, plan)))
            self.assertEqual(recorder.listing(), Listing({}))

    def test_rounds_are_what_one_run_after_another_records(self):
        for book, listing, receivers in cases():
            recorder, found = Recorder(book, listing, receivers), []
            while recorder.plan():
                found.append(recorder.plan())
                recorder.run(LATEST)
                recorder = Recorder(recorder.book(), listing, receivers)
            self.assertEqual(found, rounds(book, listing, receivers))

    def test_what_it_runs_is_gone_from_its_listing(self):
        for book, listing, receivers in cases():
            recorder = Recorder(book, listing, receivers)
            with Trial(recorder):
                for minute in (0, 10, 20, 40, 60, 130):
                    before = recorder.listing()
                    recorder.run(minute)
                    gone = [name for name in before.names if before[name].end <= minute]
                    self.assertEqual(changes(before, recorder.listing()), [("gone", name) for name in gone])
            self.assertEqual((recorder.listing(), recorder.history, recorder.redo()), (listing, [], False))

    def test_hours_and_table_tell_the_own_plan(self):
        for book, listing, receivers in cases():
            plan = own_plan(book, listing, receivers)
            minutes = [0] * receivers
            for receiver, line in enumerate(table(book, listing, receivers).split("\n")):
                number, _, told = line.partition(": ")
                self.assertEqual(number, str(receiver))
                for name, span in [row.split(" ") for row in told.split(", ") if told != "-"]:
                    self.assertEqual(plan[name], receiver)
                    begin, end = map(int, span.split("-"))
                    self.assertEqual(window(book, listing, name), (begin, end))
                    self.assertNotEqual(free_receiver(book, listing, receivers, begin, end), receiver)
                    self.assertIsNone(longest_pause(book, listing, receivers, begin, end))
                    minutes[receiver] += end - begin
            self.assertEqual(busy_minutes(book, listing, receivers), minutes)
            pause, many = longest_pause(book, listing, receivers, 0, LATEST)
            self.assertEqual(free_receiver(book, listing, receivers, pause, pause + many), 0)

    def test_texts_and_codes_keep_the_own_plan(self):
        for book, listing, receivers in cases():
            text = format_book(book, listing)
            parsed, others = parse_book(text)
            self.assertEqual((parsed, others, decode_listing(encode_listing(listing))), (book, listing, listing))
            daybook = Daybook((text + "\n" if text else "") + f"recorder {receivers}\nplan\nlost")
            plan = ", ".join(f"{name} {at}" for name, at in own_plan(book, listing, receivers).items())
            gone = ", ".join(f"{show} {number}" for show, number in lost(book, listing, receivers))
            self.assertEqual(daybook.results, f"{plan or '-'}\n{gone or '-'}")
            self.assertEqual(daybook.recorder().listing(), listing)

    def test_a_lateness_that_is_told_all_minutes_of_one_delay(self):
        for _, listing, _ in cases():
            for name in listing.names:
                for delay in Lateness(listing, listing[name].channel).delays[::7]:
                    watch = Lateness(listing, listing[name].channel)
                    sending = listing[name]
                    for minute in range(sending.begin, sending.end + sending.late + 1):
                        on = sending.begin + delay <= minute < sending.end + delay
                        (watch.on_air if on else watch.silent)(name, minute)
                    self.assertEqual(watch.delays, (delay,))
                    self.assertIsNone(watch.best_minute(name))
                    self.assertEqual(watch.surely_on(name), (sending.begin + delay, sending.end + delay))

    def test_rows_that_are_tried_one_after_another(self):
        for book, listing, receivers in cases(20):
            rows = [(listing, receivers), (listing.only(listing.names[:2]), 1), (listing.only(listing.names[1:]), 1)]
            truth, log = Book(book.rules[:2]), []
            while fewest_listings(book.rules, 2, log, rows) > 0:
                left = len(possible_books(book.rules, 2, log))
                row = rows[next_listing(book.rules, 2, log, rows)]
                log.append((*row, tuple(own_plan(truth, *row))))
                self.assertLess(len(possible_books(book.rules, 2, log)), left)
            self.assertLessEqual(len(log), len(rows))
            for indexes in possible_books(book.rules, 2, log):
                other = Book(tuple(book.rules[index] for index in indexes))
                for row in rows:
                    self.assertEqual(list(own_plan(other, *row)), list(own_plan(truth, *row)))


class DocumentTest(unittest.TestCase):
    """The listing of ant, bee and cat, of which the document tells everything."""

    def test_by_one_receiver(self):
        book, listing = document_book(), document_listing()
        self.assertEqual(wishes(book, listing), [("news", 1), ("quiz", 1)])
        self.assertEqual(own_plan(book, listing, 1), {"ant": 0})
        self.assertEqual(lost(book, listing, 1), [("quiz", 1)])
        self.assertEqual(in_the_way(book, listing, 1, ("quiz", 1)), {"bee": [["ant"]]})
        self.assertEqual(best_choice(book, listing, 1), (8, ("bee", "cat")))
        self.assertEqual(steady_choice(book, listing, 1, ("ant",)), (1, 5, ("ant",)))
        self.assertEqual(on_disk(book, listing, 1, 32, ()), (["ant"], [], []))
        self.assertEqual(on_disk(book, listing, 1, 31, ()), ([], [], ["ant"]))
        self.assertEqual(least_disk(book, listing, 1, ()), 32)
        self.assertEqual(least_more(book, listing, 1), 1)
        self.assertEqual(rounds(book, listing, 1), [{"ant": 0}, {"bee": 0}])
        self.assertEqual(fair_choice([book, Book(book.rules[1:])], listing, 1), ((2, 1), ("bee", "cat")))

    def test_by_two_receivers(self):
        book, listing = document_book(), document_listing()
        self.assertEqual(own_plan(book, listing, 2), {"ant": 0, "bee": 1})
        self.assertEqual(lost(book, listing, 2), [])
        self.assertEqual(best_choice(book, listing, 2), (8, ("ant", "bee")))
        self.assertEqual(seated(book, listing, ("bee", "cat")), {"bee": 0, "cat": 0})
        self.assertEqual(surely_whole(book, listing, own_plan(book, listing, 2)), [])
        self.assertEqual(least_disk(book, listing, 2, ()), 32)
        self.assertEqual(rounds(book, listing, 2), [{"ant": 0, "bee": 1}])
        self.assertEqual(shifted(book, listing, listing.only(("bee", "cat")), 2), ([], []))
        self.assertEqual(changes(listing, listing.only(("bee", "cat"))), [("gone", "ant")])

    def test_the_book_and_the_listing_stay_as_they_were(self):
        book, listing = document_book(), document_listing()
        for _ in range(2):
            fewest_own(book, listing)
            fewest_best(book, listing)
            rounds(book, listing, 1)
            least_more(book, listing, 2)
            difference(book, Book(()), listing, 1)
            possible_books(book.rules, 2, [(listing, 1, ("bee",))])
            steady_choice(book, listing, 1, ("ant",))
            fair_choice([book], listing, 1)
        self.assertEqual((book, listing), (document_book(), document_listing()))
        self.assertEqual(listing.names, ("ant", "bee", "cat"))


if __name__ == "__main__":
    unittest.main()
