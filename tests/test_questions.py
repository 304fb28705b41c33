"""Points 17 and 20: who bears a loss on a day, exactly, in coins and in rounds, and what one pact more would change."""

import unittest
from fractions import Fraction

from helper import (
    NAMES, OPEN, Case, Plain, book_of, chains, dice, everything, given, keeps, outcome, pick, solved, told_to,
    words_of, written,
)
from roundcede.book import Book
from roundcede.errors import OutOfRange, UnknownHouse

NETS = {name: net for name, net in OPEN.items() if net[0] <= 15 and len(net[1]) <= 80}
RING = ("oak ash 500 10 20", "ash oak 500 10 20")


def rows_of(ways, first, last):
    return [f"{NAMES[giver]} {NAMES[taker]} {part} {first} {last}" for giver, taker, part in ways]


def eighty(seed):
    """Makes a book of fifteen houses and eighty pacts on scattered days, some houses passing all on."""
    numbers = dice(seed)
    book = book_of(15)
    while len(book.pacts()) < 80:
        giver = next(numbers) % 15
        taker = (giver + 1 + next(numbers) % 14) % 15
        first, last = sorted(pick(numbers, (0, 5, 10, 11, 30, 31, 4000, 5000)) for end in range(2))
        part = pick(numbers, (40, 111, 250, 499, 999, 1000))
        outcome(book.pact, NAMES[giver], NAMES[taker], part, first, last)
    return book


class OneDay(Case):
    def asked(self, book, house, day, ways):
        """Asks the four questions, where these are the ways of the day."""
        count = len(book.houses())
        start = book.houses().index(house)
        paper = book.paper(house, day)
        self.fractions(paper, count)
        self.assertEqual(paper, written(solved(count, tuple(ways), start)))
        shares = book.shares(house, day)
        self.fractions(shares, count)
        rests = keeps(count, ways)
        self.assertEqual(shares, written(Fraction(rest, 1000) * Fraction(*one) for rest, one in zip(rests, paper)))
        for amount in (1, 100, 10 ** 12):
            told = book.coins(house, day, amount)
            self.whole_numbers(told, count)
            self.assertEqual(told, given(amount, shares))
        self.rounds(book, house, day, ways)

    def rounds(self, book, house, day, ways):
        count = len(book.houses())
        told = book.rounds(house, day, 11, 2)
        self.assertEqual([type(told)] + [type(one) for one in told], [list, tuple, tuple, tuple])
        before = ([11 * (name == house) for name in book.houses()], [0] * count)
        for k, one in enumerate(told):
            self.assertEqual(one, before)
            self.whole_numbers(one[0], count)
            self.whole_numbers(one[1], count)
            rests = keeps(count, ways)
            sent = [sum(way[2] * one[0][way[0]] for way in ways if way[1] == place) for place in range(count)]
            before = (sent, [1000 * one[1][place] + rests[place] * one[0][place] for place in range(count)])

    def test_by_hand(self):
        book = book_of(2, *RING)
        for day in (10, 15, 20):
            self.assertEqual(book.paper("oak", day), [(4, 3), (2, 3)])
            self.assertEqual(book.shares("oak", day), [(2, 3), (1, 3)])
            self.assertEqual(book.coins("oak", day, 100), [67, 33])
            self.assertEqual(
                book.rounds("oak", day, 100, 2),
                [([100, 0], [0, 0]), ([0, 50000], [50000, 0]), ([25000000, 0], [50000000, 25000000])],
            )
            self.assertEqual(book.paper("ash", day), [(2, 3), (4, 3)])
            self.assertEqual(book.coins("ash", day, 100), [33, 67])
        for day in (0, 9, 21, 5000):
            self.assertEqual(book.paper("oak", day), [(1, 1), (0, 1)])
            self.assertEqual(book.shares("ash", day), [(0, 1), (1, 1)])
            self.assertEqual(book.coins("ash", day, 100), [0, 100])
            self.assertEqual(book.rounds("oak", day, 100, 1), [([100, 0], [0, 0]), ([0, 0], [100000, 0])])

    def test_nets_of_each_size_at_the_edges_of_their_pacts(self):
        self.assertEqual({count for count, ways in NETS.values()}, set(range(1, 16)))
        for number, (name, (count, ways)) in enumerate(NETS.items()):
            first, last = ((10, 20), (0, 3), (4990, 5000), (7, 7))[number % 4]
            book = book_of(count, *rows_of(ways, first, last))
            with self.subTest(name=name):
                for house in {NAMES[0], NAMES[number % count]}:
                    for day, held in ((first - 1, []), (first, ways), (last, ways), (last + 1, [])):
                        if 0 <= day <= 5000:
                            self.asked(book, house, day, held)

    def test_each_house_of_nets_of_each_size(self):
        for count in range(1, 16):
            ways = NETS[f"{count}, some pass all on"][1] if f"{count}, some pass all on" in NETS else []
            book = book_of(count, *rows_of(ways, 0, 5000))
            for house in NAMES[:count]:
                self.asked(book, house, 0, ways)
                self.asked(book, house, 5000, ways)

    def test_fifteen_houses_with_eighty_pacts(self):
        for seed in (3, 4):
            book = eighty(seed)
            self.assertEqual((len(book.houses()), len(book.pacts())), (15, 80))
            for day in (0, 5, 10, 11, 12, 30, 31, 32, 4000, 4001, 5000):
                for house in (NAMES[day % 15], NAMES[(day + seed) % 15]):
                    self.asked(book, house, day, book.ways(day))

    def test_one_house_alone(self):
        book = book_of(1)
        self.assertEqual(book.paper("oak", 0), [(1, 1)])
        self.assertEqual(book.shares("oak", 5000), [(1, 1)])
        self.assertEqual(book.coins("oak", 7, 10 ** 12), [10 ** 12])
        self.assertEqual(book.rounds("oak", 7, 5, 1), [([5], [0]), ([0], [5000])])

    def test_three_hundred_rounds(self):
        book = book_of(2, "oak ash 1000 0 5000", "ash oak 999 0 5000")
        told = book.rounds("oak", 3, 10 ** 12, 300)
        self.assertEqual(len(told), 301)
        self.assertEqual(told, told_to(Plain(), book_rows(book)).rounds("oak", 3, 10 ** 12, 300))
        self.assertEqual(sum(told[-1][0]) + sum(told[-1][1]), 10 ** 12 * 1000 ** 300)

    def test_the_order_of_telling_is_nothing(self):
        rows = ["oak ash 300 5 9", "ash yew 500 6 9", "yew oak 1000 4 8", "oak yew 200 7 30"]
        one, two = book_of(3, *rows), book_of(3, *rows[::-1])
        for day in range(3, 11):
            for house in NAMES[:3]:
                self.assertEqual(one.paper(house, day), two.paper(house, day))
                self.assertEqual(one.shares(house, day), two.shares(house, day))
                self.assertEqual(one.coins(house, day, 1000), two.coins(house, day, 1000))
                self.assertEqual(one.rounds(house, day, 1000, 3), two.rounds(house, day, 1000, 3))


def book_rows(book):
    return [row.split(" ", 1)[1] for row in book.deeds()]


class AskedAgain(Case):
    def test_asked_then_a_pact_told_then_asked_again(self):
        book = book_of(2)
        self.assertEqual(book.shares("oak", 10), [(1, 1), (0, 1)])
        book.pact("oak", "ash", 500, 10, 20)
        self.assertEqual(book.shares("oak", 10), [(1, 2), (1, 2)])
        self.assertEqual(book.paper("oak", 10), [(1, 1), (1, 2)])
        self.assertEqual(book.shares("oak", 9), [(1, 1), (0, 1)])
        self.assertEqual(book.shares("oak", 21), [(1, 1), (0, 1)])
        book.loss("oak", 10, 100)
        book.pact("ash", "oak", 500, 10, 10)
        self.assertEqual(book.paper("oak", 10), [(4, 3), (2, 3)])
        self.assertEqual(book.shares("oak", 10), [(2, 3), (1, 3)])
        self.assertEqual(book.coins("oak", 10, 100), [67, 33])
        self.assertEqual(book.rounds("oak", 10, 100, 2)[2], ([25000000, 0], [50000000, 25000000]))
        self.assertEqual(book.shares("oak", 11), [(1, 2), (1, 2)])
        book.take_back()
        self.assertEqual(book.shares("oak", 10), [(1, 2), (1, 2)])
        book.take_back()
        book.take_back()
        self.assertEqual(book.shares("oak", 10), [(1, 1), (0, 1)])

    def test_after_each_deed(self):
        rows = NAMES[:3] + ["oak ash 500 0 9", "ash yew 999 5 9", "yew oak 1000 7 20", "oak 7 100", "hornbeam",
                            "hornbeam oak 250 0 5000", "oak hornbeam 500 8 8"]
        book, plain = Book(), Plain()
        for row in rows:
            told_to(book, [row])
            told_to(plain, [row])
            days = [0, 5, 7, 8, 9, 10, 21]
            self.assertEqual(everything(book, days), everything(plain, days))


class Refused(Case):
    def test_an_unknown_house(self):
        for count in (0, 1, 3):
            book = book_of(count)
            before = book.deeds()
            for name in ("beech", "", "Oak", "oak ", "oakk", "oa", NAMES[count]):
                self.refused(UnknownHouse, book.paper, name, 3)
                self.refused(UnknownHouse, book.shares, name, 3)
                self.refused(UnknownHouse, book.coins, name, 3, 5)
                self.refused(UnknownHouse, book.rounds, name, 3, 5, 1)
            self.assertEqual(book.deeds(), before)

    def test_an_unknown_house_goes_ahead_of_numbers_out_of_range(self):
        book = book_of(2, *RING)
        for day, amount, many in ((-1, 5, 1), (5001, 5, 1), (3, 0, 1), (3, 10 ** 12 + 1, 1), (3, 5, -1), (3, 5, 301),
                                  (-1, 0, 301), (10 ** 200, -10 ** 200, 10 ** 200)):
            self.refused(UnknownHouse, book.paper, "yew", day)
            self.refused(UnknownHouse, book.shares, "yew", day)
            self.refused(UnknownHouse, book.coins, "yew", day, amount)
            self.refused(UnknownHouse, book.rounds, "yew", day, amount, many)

    def test_the_bounds(self):
        book = book_of(2, *RING)
        before = book.deeds()
        for day in (-1, -2, 5001, 5002, 10 ** 200, -10 ** 200):
            self.refused(OutOfRange, book.paper, "oak", day)
            self.refused(OutOfRange, book.shares, "oak", day)
            self.refused(OutOfRange, book.coins, "oak", day, 5)
            self.refused(OutOfRange, book.rounds, "oak", day, 5, 1)
        for amount in (0, -1, 10 ** 12 + 1, 10 ** 13, 10 ** 200, -10 ** 200):
            self.refused(OutOfRange, book.coins, "oak", 12, amount)
            self.refused(OutOfRange, book.rounds, "oak", 12, amount, 1)
        for many in (-1, -2, 301, 302, 10 ** 200, -10 ** 200):
            self.refused(OutOfRange, book.rounds, "oak", 12, 5, many)
        self.assertEqual(book.deeds(), before)

    def test_within_the_bounds(self):
        book = book_of(2, *RING)
        for day in (0, 5000):
            self.assertEqual(book.paper("oak", day), [(1, 1), (0, 1)])
            self.assertEqual(book.shares("oak", day), [(1, 1), (0, 1)])
            for amount in (1, 10 ** 12):
                self.assertEqual(book.coins("oak", day, amount), [amount, 0])
                for many in (0, 300):
                    self.assertEqual(len(book.rounds("oak", day, amount, many)), many + 1)


class Elsewhere(Case):
    """A pact put otherwise changes nothing for whoever does not lead to its giver on that day."""

    def otherwise(self, pact, names):
        giver, taker, part, first, last = pact
        others = [name for name in names if name not in (giver, taker)]
        return [(giver, others[0], part, first, last), (giver, others[-1], part, first, last),
                (giver, taker, 1, first, last), (giver, taker, part, 0, last), (giver, taker, part, last, last),
                (giver, taker, part, first, 5000), None]

    def test_scattered_books(self):
        compared, differ = 0, 0
        for seed in range(4):
            numbers = dice(seed + 70)
            book = book_of(6)
            for turn in range(9):
                giver, taker = next(numbers) % 6, next(numbers) % 6
                first, last = sorted(next(numbers) % 12 for end in range(2))
                if giver != taker:
                    outcome(book.pact, NAMES[giver], NAMES[taker], pick(numbers, (300, 500, 1000)), first, last)
            for place, pact in enumerate(book.pacts()):
                for new in self.otherwise(pact, NAMES[:6]):
                    other = book_of(6)
                    rows = book.pacts()[:place] + [new] * (new is not None) + book.pacts()[place + 1:]
                    if any(outcome(other.pact, *row) for row in rows):
                        continue
                    for day in range(0, 13, 2):
                        table = chains(6, book.ways(day))
                        for house in range(6):
                            same = book.shares(NAMES[house], day) == other.shares(NAMES[house], day)
                            differ += not same
                            if not table[house][NAMES.index(pact[0])]:
                                compared += 1
                                self.assertTrue(same, (book.deeds(), new, day))
        self.assertGreater(compared, 500)
        self.assertGreater(differ, 100)

    def test_by_hand(self):
        rows = ["oak ash 500 0 9", "yew oak 500 0 5", "hornbeam yew 1000 4 9"]
        one, two = book_of(4, *rows), book_of(4, "oak yew 400 0 5000", *rows[1:])
        for day in (0, 4, 5, 6, 9):
            self.assertNotEqual(one.shares("oak", day), two.shares("oak", day))
            self.assertEqual(one.shares("ash", day), two.shares("ash", day))
            self.assertEqual(one.shares("yew", day) == two.shares("yew", day), day > 5)
            self.assertEqual(one.shares("hornbeam", day) == two.shares("hornbeam", day), day not in (4, 5))


class Change(Case):
    def changed(self, book, house, day, pact):
        """Asks that the change is what the shares become, and that asking changes nothing."""
        before = book.deeds()
        now = book.shares(house, day)
        told = book.change(house, day, *pact)
        self.fractions(told, len(book.houses()))
        self.assertEqual(book.deeds(), before)
        self.assertEqual(book.shares(house, day), now)
        self.assertEqual(sum(Fraction(*one) for one in told), 0)
        book.pact(*pact)
        then = book.shares(house, day)
        self.assertEqual(told, written(Fraction(*one) - Fraction(*two) for one, two in zip(then, now)))
        book.take_back()
        return told

    def test_by_hand(self):
        book = book_of(3, "oak ash 500 0 5000")
        self.assertEqual(book.change("oak", 7, "ash", "oak", 500, 7, 7), [(1, 6), (-1, 6), (0, 1)])
        self.assertEqual(book.change("oak", 7, "ash", "yew", 500, 7, 7), [(0, 1), (-1, 4), (1, 4)])
        self.assertEqual(book.change("oak", 7, "oak", "yew", 500, 0, 5000), [(-1, 2), (0, 1), (1, 2)])
        self.assertEqual(book.change("oak", 7, "yew", "oak", 1000, 0, 5000), [(0, 1)] * 3)
        self.assertEqual(book.change("yew", 7, "yew", "oak", 1000, 0, 5000), [(1, 2), (1, 2), (-1, 1)])
        self.assertEqual(book.change("ash", 7, "ash", "oak", 1000, 0, 5000), [(1, 1), (-1, 1), (0, 1)])
        self.assertEqual(book.pacts(), [("oak", "ash", 500, 0, 5000)])

    def test_on_days_on_which_the_pact_holds_and_on_others(self):
        book = book_of(3, "oak ash 500 0 5000")
        for first, last in ((10, 20), (10, 10), (0, 3), (4990, 5000), (0, 5000), (0, 0), (5000, 5000)):
            for day in {0, first - 1, first, last, last + 1, 5000}:
                if 0 <= day <= 5000:
                    told = self.changed(book, "oak", day, ("ash", "oak", 500, first, last))
                    holds = first <= day <= last
                    self.assertEqual(told, [(1, 6), (-1, 6), (0, 1)] if holds else [(0, 1)] * 3)

    def test_scattered_books(self):
        answered = 0
        for count in (2, 3, 5, 8, 15):
            numbers = dice(count + 500)
            book = book_of(count)
            for turn in range(40):
                giver = next(numbers) % count
                taker = (giver + 1 + next(numbers) % (count - 1)) % count
                first, last = sorted(next(numbers) % 9 for end in range(2))
                pact = (NAMES[giver], NAMES[taker], pick(numbers, (1, 120, 333, 500, 1000)), first, last)
                house = pick(numbers, NAMES[:count])
                if not isinstance(outcome(book.shut, *pact), tuple):
                    for day in {first, last, next(numbers) % 9}:
                        self.changed(book, house, day, pact)
                        answered += 1
                    if turn % 3:
                        book.pact(*pact)
        self.assertGreater(answered, 100)

    def test_with_seventy_nine_pacts(self):
        book = eighty(5)
        rows = book.pacts()
        last = rows[-1]
        book.take_back()
        self.changed(book, last[0], last[3], last)
        self.changed(book, NAMES[3], last[4], last)
        self.assertEqual(len(book.pacts()), 79)

    def test_of_a_loss_whose_house_does_not_lead_to_the_giver(self):
        book = book_of(4, "oak ash 500 0 5", "ash oak 200 0 9")
        for day in (0, 5, 6):
            for taker in ("oak", "ash", "hornbeam"):
                for house in ("oak", "ash", "hornbeam"):
                    self.assertEqual(book.change(house, day, "yew", taker, 1000, 0, 9), [(0, 1)] * 4)
        self.assertEqual(book.change("oak", 6, "ash", "yew", 500, 0, 9), [(0, 1)] * 4)
        self.assertNotEqual(book.change("oak", 5, "ash", "yew", 500, 0, 9), [(0, 1)] * 4)

    def test_losses_that_stand_are_nothing_to_it(self):
        rows = ["oak ash 500 0 5000"]
        one, two = book_of(2, *rows), book_of(2, *rows, "oak 3 100", "ash 0 7")
        self.assertEqual(one.change("oak", 3, "ash", "oak", 7, 0, 3), two.change("oak", 3, "ash", "oak", 7, 0, 3))

    def test_asking_changes_no_answer(self):
        rows = ["oak ash 500 0 9", "ash yew 300 4 9", "oak 5 100", "yew 9 3"]
        book = book_of(3, *rows)
        before = everything(book, [0, 5, 9, 10])
        for row in ("yew oak 1000 0 9", "yew oak 1000 5 5", "oak yew 500 9 9", "oak yew 501 9 9", "ash ash 1 1 1"):
            for day in (0, 5, 9, 10, 5001):
                outcome(book.change, "oak", day, *words_of(row))
                outcome(book.shut, *words_of(row))
                self.assertEqual(everything(book, [0, 5, 9, 10]), before)


if __name__ == "__main__":
    unittest.main()
