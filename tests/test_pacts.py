"""Points 15, 16 and 21: pacts, whom they shut in, and the ways of a day."""

import itertools
import unittest

from helper import NAMES, Case, book_of, dice, left_shut, keeps, outcome, pick, told_to, words_of
from roundcede.book import Book
from roundcede.errors import Full, OutOfRange, ShutIn, TooMuch


class Told(Case):
    def test_what_stands_in_the_order_of_telling(self):
        book = book_of(4)
        rows = ["yew oak 7 30 40", "oak ash 1 0 0", "ash yew 1000 5000 5000", "oak ash 1 0 0", "hornbeam oak 30 0 5000"]
        for many, row in enumerate(rows):
            self.assertEqual(book.pacts(), [tuple(words_of(one)) for one in rows[:many]])
            self.assertIsNone(book.pact(*words_of(row)))
        self.assertEqual(book.pacts(), [tuple(words_of(one)) for one in rows])
        for one in book.pacts():
            self.assertEqual([type(word) for word in one], [str, str, int, int, int])
        self.assertEqual([type(one) for one in book.pacts()], [tuple] * 5)
        self.assertEqual((book.houses(), book.losses()), (NAMES[:4], []))

    def test_the_bounds_of_a_part(self):
        for part in (1, 2, 999, 1000):
            self.assertEqual(book_of(2, f"oak ash {part} 0 9").pacts(), [("oak", "ash", part, 0, 9)])
        for part in (-1000, -1, 0, 1001, 1002, 10 ** 200, -10 ** 200):
            self.refused(OutOfRange, book_of(2).pact, "oak", "ash", part, 0, 9)

    def test_the_bounds_of_the_days(self):
        for first, last in ((0, 0), (0, 5000), (5000, 5000), (1, 1), (4999, 5000)):
            self.assertEqual(book_of(2, f"oak ash 5 {first} {last}").pacts(), [("oak", "ash", 5, first, last)])
        for first, last in ((-1, -1), (-1, 0), (-1, 5000), (0, 5001), (5000, 5001), (5001, 5001), (-1, 5001)):
            book = book_of(2)
            self.refused(OutOfRange, book.pact, "oak", "ash", 5, first, last)
            self.assertEqual(book.pacts(), [])

    def test_the_same_pact_told_twice_counts_twice(self):
        book = book_of(2, "oak ash 250 3 8")
        self.assertEqual(book.shares("oak", 5), [(3, 4), (1, 4)])
        self.assertIsNone(book.pact("oak", "ash", 250, 3, 8))
        self.assertEqual(book.pacts(), [("oak", "ash", 250, 3, 8)] * 2)
        self.assertEqual(book.ways(5), [(0, 1, 250)] * 2)
        self.assertEqual(book.shares("oak", 5), [(1, 2), (1, 2)])
        told_to(book, ["oak ash 250 3 8"] * 2)
        self.assertEqual(book.shares("oak", 5), [(0, 1), (1, 1)])
        self.assertEqual(book.shares("oak", 2), [(1, 1), (0, 1)])
        self.refused(TooMuch, book.pact, "oak", "ash", 250, 3, 8)
        self.assertEqual(book.pacts(), [("oak", "ash", 250, 3, 8)] * 4)

    def test_the_eighty_first_pact(self):
        book = book_of(3)
        for many in range(80):
            self.assertEqual(len(book.pacts()), many)
            self.assertIsNone(book.pact("oak", "ash", 12, 0, 5000))
        for row in ("oak ash 12 0 5000", "ash oak 1 0 0", "yew ash 1000 7 7"):
            self.refused(Full, book.pact, *words_of(row))
            self.assertEqual(book.pacts(), [("oak", "ash", 12, 0, 5000)] * 80)
        self.refused(TooMuch, book.pact, "oak", "ash", 41, 9, 9)
        self.refused(ShutIn, book_of(3, *["oak ash 12 0 5000"] * 79, "oak ash 52 0 9").pact, "ash", "oak", 1000, 9, 10)
        book.take_back()
        self.assertIsNone(book.pact("ash", "oak", 1, 0, 0))
        self.refused(Full, book.pact, "ash", "oak", 1, 0, 0)

    def test_eighty_pacts_on_days_apart_are_full_too(self):
        book = book_of(2, *[f"oak ash 1000 {day} {day}" for day in range(0, 160, 2)])
        self.refused(Full, book.pact, "oak", "ash", 1000, 1, 1)
        self.refused(TooMuch, book.pact, "oak", "ash", 1, 2, 2)


class TooMuchOnADay(Case):
    def most(self, rows, giver, most, first, last):
        """Asks that so much of the giver's can be passed on by one pact more, and not a thousandth above it."""
        for taker in [name for name in NAMES[:4] if name != giver]:
            book = book_of(4, *rows)
            before = book.deeds()
            if most < 1000:
                for part in (most + 1, 1000):
                    self.refused(TooMuch, book.pact, giver, taker, part, first, last)
                    self.refused(TooMuch, book.shut, giver, taker, part, first, last)
                    self.refused(TooMuch, book.change, "oak", 0, giver, taker, part, first, last)
                    self.assertEqual(book.deeds(), before)
            if most > 0:
                self.assertIsNone(book.pact(giver, taker, most, first, last))
                self.assertEqual(book.pacts()[-1], (giver, taker, most, first, last))

    def test_one_pact_stands(self):
        for first, last, most in (
            (0, 9, 1000), (21, 30, 1000), (21, 5000, 1000), (0, 0, 1000),
            (0, 10, 400), (10, 10, 400), (20, 30, 400), (20, 20, 400), (15, 15, 400), (11, 19, 400), (10, 20, 400),
            (9, 21, 400), (0, 5000, 400), (9, 10, 400), (20, 21, 400), (12, 5000, 400),
        ):
            with self.subTest(first=first, last=last):
                self.most(["oak ash 600 10 20"], "oak", most, first, last)

    def test_pacts_that_overlap_on_one_day_only(self):
        rows = ["oak ash 400 0 10", "oak yew 400 10 20"]
        for first, last, most in (
            (10, 10, 200), (0, 10, 200), (10, 20, 200), (5, 15, 200), (0, 5000, 200), (9, 11, 200), (10, 5000, 200),
            (0, 9, 600), (11, 20, 600), (11, 5000, 600), (21, 5000, 1000), (20, 21, 600),
        ):
            with self.subTest(first=first, last=last):
                self.most(rows, "oak", most, first, last)
                self.most(rows[::-1], "oak", most, first, last)

    def test_at_the_first_day_and_at_the_last(self):
        self.most(["oak ash 999 0 0"], "oak", 1, 0, 5000)
        self.most(["oak ash 1000 0 0"], "oak", 0, 0, 5000)
        self.most(["oak ash 1000 0 0"], "oak", 1000, 1, 5000)
        self.most(["oak ash 999 5000 5000"], "oak", 1, 0, 5000)
        self.most(["oak ash 1000 5000 5000"], "oak", 0, 0, 5000)
        self.most(["oak ash 1000 5000 5000"], "oak", 1000, 0, 4999)

    def test_one_day_of_many(self):
        rows = ["oak ash 100 0 100", "oak yew 200 50 150", "oak ash 300 100 200", "oak yew 300 100 100"]
        self.most(rows, "oak", 100, 0, 5000)
        self.most(rows, "oak", 100, 100, 100)
        self.most(rows, "oak", 500, 101, 5000)
        self.most(rows, "oak", 700, 0, 99)
        self.most(rows, "oak", 900, 0, 49)
        self.most(rows, "oak", 700, 151, 5000)

    def test_parts_of_other_givers_and_of_takers_are_nothing(self):
        rows = ["ash oak 900 0 5000", "yew oak 1000 0 5000", "ash hornbeam 100 0 5000"]
        book = book_of(4, *rows)
        self.assertIsNone(book.pact("oak", "hornbeam", 1000, 0, 5000))
        self.refused(TooMuch, book.pact, "oak", "hornbeam", 1, 0, 0)
        self.refused(TooMuch, book.pact, "ash", "hornbeam", 1, 5000, 5000)
        self.assertIsNone(book.pact("hornbeam", "oak", 999, 0, 5000))

    def test_a_pact_that_was_taken_back_counts_no_more(self):
        book = book_of(2, "oak ash 600 0 9")
        self.refused(TooMuch, book.pact, "oak", "ash", 401, 9, 9)
        book.take_back()
        self.assertIsNone(book.pact("oak", "ash", 401, 9, 9))

    def test_a_refused_pact_counts_for_nothing(self):
        book = book_of(2, "oak ash 600 0 9")
        for turn in range(3):
            self.refused(TooMuch, book.pact, "oak", "ash", 401, 5, 9)
            self.refused(OutOfRange, book.pact, "oak", "ash", 100, 5, 5001)
        self.assertIsNone(book.pact("oak", "ash", 400, 0, 9))


SHUT = {
    "a ring of two": (2, ["oak ash 1000 0 5000"], "ash oak 1000 0 5000", (0, ["oak", "ash"])),
    "told from the other": (2, ["ash oak 1000 0 5000"], "oak ash 1000 0 5000", (0, ["oak", "ash"])),
    "one keeps a thousandth": (2, ["oak ash 1000 0 5000"], "ash oak 999 0 5000", None),
    "the other keeps one": (2, ["oak ash 999 0 5000"], "ash oak 1000 0 5000", None),
    "in two parts": (2, ["oak ash 1000 0 50", "ash oak 999 5 20"], "ash oak 1 10 30", (10, ["oak", "ash"])),
    "in parts that overlap": (2, ["oak ash 500 0 20", "oak ash 500 10 30"], "ash oak 1000 0 99", (10, ["oak", "ash"])),
    "in parts that don't": (2, ["oak ash 500 0 20", "oak ash 500 21 30"], "ash oak 1000 0 99", None),
    "days apart": (2, ["oak ash 1000 10 20"], "ash oak 1000 21 30", None),
    "days apart, before": (2, ["oak ash 1000 10 20"], "ash oak 1000 0 9", None),
    "on the last day of the other": (2, ["oak ash 1000 10 20"], "ash oak 1000 20 30", (20, ["oak", "ash"])),
    "on the first day of the other": (2, ["oak ash 1000 10 20"], "ash oak 1000 0 10", (10, ["oak", "ash"])),
    "on one day within": (2, ["oak ash 1000 10 20"], "ash oak 1000 13 13", (13, ["oak", "ash"])),
    "on a later stretch only": (2, ["oak ash 1000 100 200"], "ash oak 1000 0 150", (100, ["oak", "ash"])),
    "on the last day only": (2, ["oak ash 1000 5000 5000"], "ash oak 1000 0 5000", (5000, ["oak", "ash"])),
    "on day 0 only": (2, ["oak ash 1000 0 0"], "ash oak 1000 0 5000", (0, ["oak", "ash"])),
    "on two stretches": (2, ["oak ash 1000 50 60", "oak ash 1000 10 20"], "ash oak 1000 5 99", (10, ["oak", "ash"])),
    "on two, the later told last": (2, ["oak ash 1000 10 20", "oak ash 1000 50 60"], "ash oak 1000 15 99",
                                    (15, ["oak", "ash"])),
    "another keeps all": (3, ["oak ash 1000 0 9"], "ash oak 1000 3 9", (3, ["oak", "ash"])),
    "a way out": (3, ["oak ash 1000 0 9", "ash yew 1 0 9"], "ash oak 999 3 9", None),
    "a way out on some days": (3, ["oak ash 1000 0 9", "ash yew 1 0 5", "ash oak 1 6 9"], "ash oak 999 3 9",
                               (6, ["oak", "ash"])),
    "a feeder": (3, ["ash yew 1000 0 9", "oak ash 1000 0 9"], "yew ash 1000 4 4", (4, ["oak", "ash", "yew"])),
    "a feeder that keeps a thousandth": (3, ["ash yew 1000 0 9", "oak ash 999 0 9"], "yew ash 1000 4 4",
                                         (4, ["ash", "yew"])),
    "a feeder to both": (3, ["ash yew 1000 0 9", "oak ash 500 0 9", "oak yew 500 0 9"], "yew ash 1000 4 4",
                         (4, ["oak", "ash", "yew"])),
    "a feeder from a later day on": (3, ["ash yew 1000 0 9", "oak ash 1000 5 9"], "yew ash 1000 4 9",
                                     (4, ["ash", "yew"])),
    "a feeder up to a day before": (3, ["ash yew 1000 0 9", "oak ash 1000 0 3"], "yew ash 1000 4 9",
                                    (4, ["ash", "yew"])),
    "a feeder of a feeder": (4, ["ash yew 1000 0 9", "oak hornbeam 1000 0 9", "hornbeam yew 1000 0 9"],
                             "yew ash 1000 4 4", (4, ["oak", "ash", "yew", "hornbeam"])),
    "a feeder that feeds another too": (4, ["ash yew 1000 0 9", "oak hornbeam 1 0 9", "oak yew 999 0 9"],
                                        "yew ash 1000 4 4", (4, ["ash", "yew"])),
    "the order of writing": (5, ["q ash 1000 0 9", "ash yew 1000 0 9", "yew oak 1000 0 9"], "oak q 1000 9 9",
                             (9, ["oak", "ash", "yew", "q"])),
    "what feeds is told": (3, ["oak ash 1000 0 9", "ash oak 999 0 9"], "yew ash 1000 0 9", None),
    "two rings that are joined": (4, ["oak ash 1000 0 9", "ash oak 999 0 9", "yew hornbeam 1000 0 9",
                                      "hornbeam yew 999 0 9", "ash yew 1 2 9"], "hornbeam oak 1 3 9",
                                  (3, ["oak", "ash", "yew", "hornbeam"])),
}


class ShutInOnADay(Case):
    def test_by_hand(self):
        for name, (count, rows, row, whom) in SHUT.items():
            with self.subTest(name=name):
                book = book_of(count, *rows)
                before = book.deeds()
                self.assertEqual(book.shut(*words_of(row)), whom)
                self.assertEqual(book.deeds(), before)
                if whom is None:
                    self.assertIsNone(book.pact(*words_of(row)))
                else:
                    for day in (0, 7):
                        refusal = self.refused(ShutIn, book.change, "oak", day, *words_of(row))
                        self.assertEqual((refusal.day, refusal.names), whom)
                    refusal = self.refused(ShutIn, book.pact, *words_of(row))
                    self.assertEqual((refusal.day, refusal.names), whom)
                    self.assertEqual(book.deeds(), before)

    def test_rings_of_each_length_closed_at_each_place(self):
        for count in range(2, 16):
            for place in range(0, count, 3):
                rows = [f"{NAMES[one]} {NAMES[(one + 1) % count]} 1000 {one} {5000 - one}" for one in range(count)]
                book = book_of(15, *rows[:place], *rows[place + 1:])
                new = words_of(rows[place])
                self.assertEqual(book.shut(*new), (count - 1, NAMES[:count]))
                self.assertIsNone(book.shut(*new[:2], 999, *new[3:]))
                if place < count - 1:
                    self.assertIsNone(book.shut(*new[:4], count - 2))

    def test_the_names_come_in_the_order_of_writing(self):
        for names in itertools.permutations(["oak", "ash", "yew"]):
            book = told_to(Book(), list(names) + ["fir", "oak ash 1000 1 9", "ash yew 1000 2 9"])
            self.assertEqual(book.shut("yew", "oak", 1000, 0, 9), (2, list(names)))
            refusal = self.refused(ShutIn, book.pact, "yew", "oak", 1000, 0, 9)
            self.assertEqual(refusal.names, list(names))

    def test_after_a_refusal_all_goes_on(self):
        book = book_of(3, "oak ash 1000 0 9")
        self.refused(ShutIn, book.pact, "ash", "oak", 1000, 0, 0)
        self.assertIsNone(book.pact("ash", "yew", 1000, 0, 0))
        self.assertIsNone(book.pact("ash", "oak", 1000, 10, 10))
        self.refused(ShutIn, book.pact, "yew", "oak", 1000, 0, 0)
        book.take_back()
        book.take_back()
        self.assertIsNone(book.shut("yew", "oak", 1000, 0, 0))

    def test_with_eighty_pacts_standing(self):
        rows = ["oak ash 1000 40 60", "yew oak 1000 50 70"] + ["hornbeam q 5 0 5000"] * 78
        book = book_of(5, *rows)
        before = book.deeds()
        self.assertEqual(book.shut("ash", "oak", 1000, 0, 55), (40, ["oak", "ash"]))
        self.assertEqual(book.shut("ash", "oak", 1000, 50, 55), (50, ["oak", "ash", "yew"]))
        self.assertEqual(book.shut("ash", "yew", 1000, 0, 5000), (50, ["oak", "ash", "yew"]))
        self.assertIsNone(book.shut("ash", "oak", 999, 0, 5000))
        self.assertIsNone(book.shut("ash", "oak", 1000, 61, 5000))
        self.refused(TooMuch, book.shut, "hornbeam", "q", 611, 9, 9)
        self.assertIsNone(book.shut("hornbeam", "q", 610, 9, 9))
        self.assertEqual(book.deeds(), before)


def look_at_each_day(book, new):
    """Tells what a new pact is refused for by a look at each of the 5001 days."""
    names = book.houses()
    pacts = [(names.index(one[0]), names.index(one[1])) + one[2:] for one in book.pacts() + [tuple(new)]]
    before, found, much = None, None, False
    for day in range(5001):
        ways = [one[:3] for one in pacts if one[3] <= day <= one[4]]
        if ways == before:
            continue
        before = ways
        much = much or min(keeps(len(names), ways)) < 0
        inside = left_shut(len(names), ways)
        if inside and found is None:
            found = (day, [names[place] for place in inside])
    return (TooMuch, None, None) if much else (ShutIn,) + found if found else None


class EachDay(Case):
    def test_scattered_pacts(self):
        seen = []
        for seed in range(12):
            numbers = dice(seed + 900)
            book = book_of(3)
            for turn in range(22):
                giver = pick(numbers, NAMES[:3])
                taker = pick(numbers, [name for name in NAMES[:3] if name != giver])
                first = next(numbers) % 5001
                last = min(5000, first + next(numbers) % 1500)
                new = (giver, taker, pick(numbers, (500, 500, 1000, 1000, 1000, 999)), first, last)
                wanted = look_at_each_day(book, new)
                shut = outcome(book.shut, *new)
                told = outcome(book.pact, *new)
                self.assertEqual(told, wanted)
                self.assertEqual(shut, wanted[1:] if told and told[0] is ShutIn else wanted)
                seen.append(told and told[0])
        self.assertGreater(min(seen.count(None), seen.count(ShutIn), seen.count(TooMuch)), 5)


class Ways(Case):
    def test_by_hand(self):
        book = book_of(3)
        self.assertEqual(book.ways(3), [])
        told_to(book, ["yew oak 7 3 5", "oak ash 100 0 3", "yew ash 1 4 4", "oak ash 100 3 3"])
        self.assertEqual(book.ways(0), [(0, 1, 100)])
        self.assertEqual(book.ways(2), [(0, 1, 100)])
        self.assertEqual(book.ways(3), [(2, 0, 7), (0, 1, 100), (0, 1, 100)])
        self.assertEqual(book.ways(4), [(2, 0, 7), (2, 1, 1)])
        self.assertEqual(book.ways(5), [(2, 0, 7)])
        self.assertEqual(book.ways(6), [])
        self.assertEqual(book.ways(5000), [])

    def test_the_edges_of_a_pact(self):
        for first, last in ((0, 0), (0, 7), (3, 3), (3, 9), (4000, 5000), (5000, 5000), (0, 5000)):
            book = book_of(2, f"ash oak 12 {first} {last}")
            for day in (first, last, (first + last) // 2):
                self.assertEqual(book.ways(day), [(1, 0, 12)])
            if first > 0:
                self.assertEqual(book.ways(first - 1), [])
            if last < 5000:
                self.assertEqual(book.ways(last + 1), [])

    def test_the_days_out_of_range(self):
        for rows in ((), ("oak ash 5 0 5000",)):
            book = book_of(2, *rows)
            for day in (-1, -2, 5001, 5002, 10 ** 200, -10 ** 200):
                self.refused(OutOfRange, book.ways, day)
            for day in (0, 5000):
                self.assertEqual(len(book.ways(day)), len(rows))

    def test_a_book_without_houses_has_no_ways(self):
        self.assertEqual([Book().ways(0), Book().ways(5000)], [[], []])
        self.refused(OutOfRange, Book().ways, 5001)

    def test_the_order_of_telling_with_eighty_pacts(self):
        numbers = dice(31)
        book = book_of(15)
        while len(book.pacts()) < 80:
            giver, taker = next(numbers) % 15, next(numbers) % 15
            first, last = sorted(next(numbers) % 60 for end in range(2))
            if giver != taker:
                book.pact(NAMES[giver], NAMES[taker], 1 + next(numbers) % 20, first, last)
        for day in list(range(62)) + [5000]:
            wanted = []
            for giver, taker, part, first, last in book.pacts():
                if day in range(first, last + 1):
                    wanted.append((NAMES.index(giver), NAMES.index(taker), part))
            told = book.ways(day)
            self.assertEqual(told, wanted)
            self.assertIs(type(told), list)
            for way in told:
                self.assertEqual([type(way)] + [type(number) for number in way], [tuple, int, int, int])
        self.assertGreater(max(len(book.ways(day)) for day in range(60)), 30)


if __name__ == "__main__":
    unittest.main()
