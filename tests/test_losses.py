"""Points 18 and 19: losses, and what a house has borne up to a day."""

import itertools
import unittest

from helper import NAMES, Case, Plain, book_of, dice, everything, outcome, pick, told_to
from roundcede.book import Book
from roundcede.errors import Full, OutOfRange, UnknownHouse

RING = ("oak ash 500 10 20", "ash oak 500 10 20")


class Loss(Case):
    def test_what_stands_in_the_order_of_telling(self):
        book = book_of(3)
        told = [("yew", 9, 5), ("oak", 0, 1), ("oak", 0, 1), ("ash", 5000, 10 ** 12), ("yew", 3, 77)]
        for many, loss in enumerate(told):
            self.assertEqual(book.losses(), told[:many])
            self.assertIsNone(book.loss(*loss))
        self.assertEqual(book.losses(), told)
        for one in book.losses():
            self.assertEqual([type(one)] + [type(word) for word in one], [tuple, str, int, int])
        self.assertEqual((book.houses(), book.pacts()), (NAMES[:3], []))

    def test_an_unknown_house(self):
        for count in (0, 1, 15):
            book = book_of(count)
            for name in ("beech", "", "Oak", "oak ", "oakk", "oa"):
                self.refused(UnknownHouse, book.loss, name, 3, 5)
                self.assertEqual(book.losses(), [])

    def test_the_bounds(self):
        book = book_of(2)
        for day, amount in ((-1, 5), (5001, 5), (10 ** 200, 5), (-10 ** 200, 5), (3, 0), (3, -1), (3, 10 ** 12 + 1),
                            (3, 10 ** 200), (3, -10 ** 200), (-1, 0), (5001, 10 ** 12 + 1)):
            self.refused(OutOfRange, book.loss, "oak", day, amount)
            self.assertEqual((book.losses(), book.deeds()), ([], ["house oak", "house ash"]))
        for day, amount in ((0, 5), (5000, 5), (3, 1), (3, 10 ** 12), (0, 1), (5000, 10 ** 12)):
            self.assertIsNone(book.loss("oak", day, amount))
            self.assertEqual(book.losses()[-1], ("oak", day, amount))

    def test_an_unknown_house_goes_ahead_of_numbers_out_of_range(self):
        book = book_of(2)
        for day, amount in ((-1, 5), (5001, 5), (3, 0), (3, 10 ** 12 + 1), (-1, 0)):
            self.refused(UnknownHouse, book.loss, "yew", day, amount)

    def test_two_hundred_losses_and_one_more(self):
        book = book_of(2, *RING)
        for many in range(200):
            self.assertEqual(len(book.losses()), many)
            self.assertIsNone(book.loss(NAMES[many % 2], 7 * many, many + 1))
        before = everything(book, [0, 12, 5000])
        for name, day, amount in (("oak", 0, 1), ("ash", 5000, 10 ** 12), ("oak", 7, 2)):
            self.refused(Full, book.loss, name, day, amount)
            self.assertEqual(everything(book, [0, 12, 5000]), before)
        for name, day, amount in (("yew", 3, 5), ("yew", -1, 0), ("", 5001, 5)):
            self.refused(UnknownHouse, book.loss, name, day, amount)
        for day, amount in ((-1, 5), (5001, 5), (3, 0), (3, 10 ** 12 + 1)):
            self.refused(OutOfRange, book.loss, "oak", day, amount)
        self.assertEqual(everything(book, [0, 12, 5000]), before)
        self.assertIsNone(book.pact("oak", "ash", 1, 0, 0))
        self.assertIsNone(book.house("yew"))
        self.refused(Full, book.loss, "yew", 1, 1)
        for turn in range(3):
            book.take_back()
        self.assertIsNone(book.loss("ash", 1, 1))
        self.refused(Full, book.loss, "ash", 1, 1)

    def test_two_hundred_losses_that_are_equal_are_full_too(self):
        book = book_of(1, *["oak 3 5"] * 200)
        self.refused(Full, book.loss, "oak", 3, 5)
        self.assertEqual(book.borne("oak", 3), 1000)


class Borne(Case):
    def test_by_hand(self):
        book = book_of(3, *RING, "oak 15 100", "oak 15 100", "ash 20 1", "ash 21 50", "yew 0 7")
        for day, borne in ((0, [0, 0, 7]), (14, [0, 0, 7]), (15, [134, 66, 7]), (19, [134, 66, 7]), (20, [134, 67, 7]),
                           (21, [134, 117, 7]), (22, [134, 117, 7]), (5000, [134, 117, 7])):
            for name, wanted in zip(NAMES, borne):
                told = book.borne(name, day)
                self.assertEqual(told, wanted)
                self.assertIs(type(told), int)

    def test_the_day_of_a_loss_and_those_beside_it(self):
        for day in (0, 1, 2500, 4999, 5000):
            book = book_of(2, f"oak {day} 9")
            self.assertEqual(book.borne("oak", day), 9)
            self.assertEqual(book.borne("ash", day), 0)
            if day > 0:
                self.assertEqual(book.borne("oak", day - 1), 0)
            if day < 5000:
                self.assertEqual(book.borne("oak", day + 1), 9)
            self.assertEqual(book.borne("oak", 5000), 9)

    def test_by_the_ways_of_the_day_of_the_loss(self):
        book = book_of(2, "oak ash 1000 10 20", "oak 9 1", "oak 10 10", "oak 20 100", "oak 21 1000")
        days = (8, 9, 10, 19, 20, 21, 5000)
        self.assertEqual([book.borne("oak", day) for day in days], [0, 1, 1, 1, 1, 1001, 1001])
        self.assertEqual([book.borne("ash", day) for day in days], [0, 0, 10, 10, 110, 110, 110])

    def test_each_loss_is_rounded_by_itself(self):
        book = book_of(2, "oak ash 500 0 5000", "oak 1 1", "oak 2 1", "oak 3 3", "oak 3 3")
        self.assertEqual([book.borne("oak", day) for day in range(5)], [0, 1, 2, 6, 6])
        self.assertEqual([book.borne("ash", day) for day in range(5)], [0, 0, 0, 2, 2])

    def test_no_loss_stands(self):
        for count in (1, 15):
            book = book_of(count)
            for name in NAMES[:count]:
                self.assertEqual([book.borne(name, 0), book.borne(name, 5000)], [0, 0])

    def test_a_pact_that_is_told_after_the_loss(self):
        book = book_of(2, "oak 15 100")
        self.assertEqual([book.borne("oak", 15), book.borne("ash", 15)], [100, 0])
        told_to(book, RING)
        self.assertEqual([book.borne("oak", 15), book.borne("ash", 15)], [67, 33])
        book.take_back()
        self.assertEqual([book.borne("oak", 15), book.borne("ash", 15)], [50, 50])
        book.take_back()
        self.assertEqual([book.borne("oak", 15), book.borne("ash", 15)], [100, 0])
        book.take_back()
        self.assertEqual([book.borne("oak", 15), book.borne("ash", 15)], [0, 0])

    def test_a_house_that_is_written_after_the_loss(self):
        book = book_of(1, "oak 3 100")
        self.assertEqual(book.borne("oak", 3), 100)
        told_to(book, ["ash", "oak ash 300 3 3"])
        self.assertEqual([book.borne("oak", 3), book.borne("ash", 3)], [70, 30])

    def test_whatever_the_order_of_losses_and_pacts(self):
        rows = ["oak ash 500 0 9", "ash oak 500 5 9", "oak 5 101", "ash 3 7", "oak 9 1"]
        wanted = None
        for order in itertools.permutations(rows):
            book = book_of(2, *order)
            told = [book.borne(name, day) for name in NAMES[:2] for day in (0, 3, 4, 5, 8, 9, 5000)]
            wanted = wanted or told
            self.assertEqual(told, wanted)

    def test_all_houses_have_borne_all_losses(self):
        for seed in (1, 2, 3):
            book, plain = scattered(seed, 40)
            for day in (0, 6, 13, 29, 30, 31, 5000):
                told = [book.borne(name, day) for name in book.houses()]
                self.assertEqual(sum(told), sum(loss[2] for loss in book.losses() if loss[1] <= day))
                self.assertEqual(told, [plain.borne(name, day) for name in plain.houses()])

    def test_two_hundred_losses(self):
        book, plain = scattered(8, 200)
        self.assertEqual(len(book.losses()), 200)
        for day in (0, 15, 5000):
            for name in NAMES[:5]:
                self.assertEqual(book.borne(name, day), plain.borne(name, day))

    def test_refused_as_shares_is(self):
        book = book_of(2, *RING, "oak 15 100")
        before = book.deeds()
        for name in ("beech", "", "Oak", "yew"):
            for day in (-1, 3, 5001):
                self.refused(UnknownHouse, book.borne, name, day)
        for day in (-1, -2, 5001, 5002, 10 ** 200, -10 ** 200):
            self.refused(OutOfRange, book.borne, "oak", day)
        self.refused(UnknownHouse, Book().borne, "oak", 3)
        self.assertEqual(book.deeds(), before)

    def test_the_sum_of_what_coins_tells(self):
        book, plain = scattered(4, 60)
        for place, name in enumerate(NAMES[:5]):
            for day in (3, 20, 5000):
                wanted = sum(book.coins(*loss)[place] for loss in book.losses() if loss[1] <= day)
                self.assertEqual(book.borne(name, day), wanted)


def scattered(seed, many):
    """Makes a book, and one kept on another way, of five houses, pacts on scattered days, and losses by turns."""
    numbers = dice(seed)
    book, plain = book_of(5), told_to(Plain(), NAMES[:5])
    while len(book.losses()) < many:
        giver = next(numbers) % 5
        taker = (giver + 1 + next(numbers) % 4) % 5
        first, last = sorted(next(numbers) % 32 for end in range(2))
        if len(book.pacts()) < 14:
            pact = (NAMES[giver], NAMES[taker], pick(numbers, (1, 333, 500, 1000)), first, last)
            if outcome(book.pact, *pact) is None:
                plain.pact(*pact)
        loss = (pick(numbers, NAMES[:5]), next(numbers) % 32, pick(numbers, (1, 2, 3, 100, 997, 10 ** 12)))
        book.loss(*loss)
        plain.loss(*loss)
    return book, plain


if __name__ == "__main__":
    unittest.main()
