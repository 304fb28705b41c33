import itertools
import unittest
from fractions import Fraction

from helper import OPEN, Case, dice, given, split, written
from roundcede.equations import arrivals, shares
from roundcede.purse import coins
from roundcede.rounds import walk

TINY = Fraction(1, 10 ** 40)


def cut(whole, many, seed):
    return written([Fraction(one, whole) for one in split(dice(seed), whole, many)])


def with_noughts(parts):
    return [(0, 1)] + parts[:1] + [(0, 1), (0, 1)] + parts[1:] + [(0, 1)]


def small():
    """Makes all rows of three fractions with a small common bottom that come to one."""
    rows = []
    for bottom in range(1, 9):
        for one, two in itertools.product(range(bottom + 1), repeat=2):
            if one + two <= bottom:
                rows.append(written([Fraction(top, bottom) for top in (one, two, bottom - one - two)]))
    return rows


SMALL = small()

ROWS = {
    "thirds": [(1, 3)] * 3,
    "sevenths": [(1, 7)] * 7,
    "fifteenths": [(1, 15)] * 15,
    "halves, thirds and sixths": [(1, 6), (1, 3), (1, 2)],
    "all to the last": [(0, 1)] * 14 + [(1, 1)],
    "all to the first": [(1, 1)] + [(0, 1)] * 14,
    "nearly a half each": written([Fraction(1, 2) - TINY, Fraction(1, 2) + TINY]),
    "nearly a third each": written([Fraction(1, 3), Fraction(1, 3) - TINY, Fraction(1, 3) + TINY]),
    "nearly a third each, turned": written([Fraction(1, 3) + TINY, Fraction(1, 3) - TINY, Fraction(1, 3)]),
    "nearly nothing": written([TINY, 1 - 3 * TINY, 2 * TINY]),
    "different bottoms": written([Fraction(1, 7), Fraction(2, 11), Fraction(3, 13), Fraction(445, 1001)]),
    "great bottoms": cut(10 ** 45 + 9, 15, 5),
    "great bottoms, otherwise": cut(3 ** 95, 15, 6),
    "great bottoms and noughts": with_noughts(cut(10 ** 50 + 151, 9, 7)),
    "thousandths": cut(1000, 15, 9),
    "somewhat more than fifteen": cut(997, 18, 10),
}
AMOUNTS = list(range(1, 40)) + [99, 100, 101, 999, 1000, 1001, 10 ** 6 + 1, 10 ** 12 - 1, 10 ** 12]


class Coins(Case):
    def ask(self, amount, parts):
        told = coins(amount, parts)
        self.whole_numbers(told, len(parts))
        self.assertEqual(sum(told), amount)
        for one, part in zip(told, parts):
            self.assertIn(one - amount * part[0] // part[1], (0, 1))
            if part == (0, 1):
                self.assertEqual(one, 0)
        self.assertEqual(told, given(amount, parts))

    def test_by_hand(self):
        self.assertEqual(coins(100, [(2, 3), (1, 3)]), [67, 33])
        self.assertEqual(coins(100, [(1, 3), (2, 3)]), [33, 67])
        self.assertEqual(coins(10, [(1, 3), (1, 3), (1, 3)]), [4, 3, 3])
        self.assertEqual(coins(11, [(1, 3), (1, 3), (1, 3)]), [4, 4, 3])
        self.assertEqual(coins(12, [(1, 3), (1, 3), (1, 3)]), [4, 4, 4])
        self.assertEqual(coins(1, [(1, 6), (1, 3), (1, 2)]), [0, 0, 1])
        self.assertEqual(coins(1, [(1, 4), (1, 4), (1, 2)]), [0, 0, 1])
        self.assertEqual(coins(10 ** 12, [(1, 3), (2, 3)]), [333333333333, 666666666667])

    def test_the_greatest_rests_first(self):
        # The rests are 1/5, 2/5, 3/5 and 4/5, and two coins are over.
        parts = [(1, 10), (1, 5), (3, 10), (2, 5)]
        self.assertEqual(coins(12, parts), [1, 2, 4, 5])
        self.assertEqual(coins(12, parts[::-1]), [5, 4, 2, 1])
        # The greatest rest is not that of the greatest fraction.
        self.assertEqual(coins(10, [(61, 100), (31, 100), (2, 25)]), [6, 3, 1])
        self.assertEqual(coins(10, [(2, 25), (61, 100), (31, 100)]), [1, 6, 3])
        self.assertEqual(coins(10, [(31, 50), (19, 100), (19, 100)]), [6, 2, 2])

    def test_of_equal_rests_the_lower_place_first(self):
        self.assertEqual(coins(1, [(1, 2), (1, 2)]), [1, 0])
        self.assertEqual(coins(4, [(1, 8), (3, 8), (1, 2)]), [1, 1, 2])
        self.assertEqual(coins(4, [(3, 8), (1, 8), (1, 2)]), [2, 0, 2])
        self.assertEqual(coins(4, [(1, 2), (3, 8), (1, 8)]), [2, 2, 0])
        self.assertEqual(coins(4, [(1, 2), (1, 8), (3, 8)]), [2, 1, 1])
        self.assertEqual(coins(17, [(1, 15)] * 15), [2, 2] + [1] * 13)
        self.assertEqual(coins(14, [(1, 15)] * 15), [1] * 14 + [0])
        self.assertEqual(coins(1, [(0, 1), (1, 2), (0, 1), (1, 2)]), [0, 1, 0, 0])

    def test_rests_that_differ_by_very_little(self):
        half = Fraction(1, 2)
        for tiny in (Fraction(1, 10 ** 13), TINY, TINY ** 3):
            self.assertEqual(coins(1, written([half - tiny, half + tiny])), [0, 1])
            self.assertEqual(coins(1, written([half + tiny, half - tiny])), [1, 0])
            self.assertEqual(coins(3, written([half - tiny, half + tiny])), [1, 2])
        self.assertEqual(coins(10 ** 12, written([TINY, 1 - TINY])), [0, 10 ** 12])
        self.assertEqual(coins(10 ** 12, written([1 - TINY, TINY])), [10 ** 12, 0])

    def test_a_fraction_of_nought(self):
        self.assertEqual(coins(5, [(0, 1), (1, 1)]), [0, 5])
        self.assertEqual(coins(5, [(0, 1), (1, 2), (0, 1), (1, 2)]), [0, 3, 0, 2])
        self.assertEqual(coins(1, [(0, 1), (0, 1), (1, 3), (1, 3), (1, 3)]), [0, 0, 1, 0, 0])

    def test_a_single_house(self):
        for amount in AMOUNTS:
            self.assertEqual(coins(amount, [(1, 1)]), [amount])

    def test_all_small_rows(self):
        for parts in SMALL:
            for amount in range(1, 17):
                self.ask(amount, parts)

    def test_each_row_and_each_amount(self):
        for name, parts in ROWS.items():
            self.assertEqual(sum(Fraction(*part) for part in parts), 1)
            for amount in AMOUNTS:
                with self.subTest(name=name, amount=amount):
                    self.ask(amount, parts)

    def test_the_shares_of_each_net(self):
        for name, (count, ways) in OPEN.items():
            for start in (0, count - 1):
                parts = shares(count, ways, start)
                for amount in (1, 2, 100, 10 ** 12):
                    with self.subTest(name=name, start=start, amount=amount):
                        self.ask(amount, parts)

    def test_all_stays_as_it_is(self):
        for name, parts in ROWS.items():
            for amount in (1, 10, 10 ** 12):
                with self.subTest(name=name, amount=amount):
                    self.leaves_all_as_it_is(coins, amount, parts)

    def test_somewhat_beyond_the_bounds_nothing_is_refused(self):
        for parts in ROWS.values():
            self.ask(10 ** 12 + 1, parts)
            self.ask(10 ** 13 + 7, parts)


class Example(unittest.TestCase):
    def test_the_two_houses_of_point_12(self):
        ways = [(0, 1, 500), (1, 0, 500)]
        self.assertEqual(arrivals(2, ways, 0), [(4, 3), (2, 3)])
        self.assertEqual(shares(2, ways, 0), [(2, 3), (1, 3)])
        self.assertEqual(coins(100, shares(2, ways, 0)), [67, 33])
        self.assertEqual(
            walk(2, ways, 0, 100, 2),
            [([100, 0], [0, 0]), ([0, 50000], [50000, 0]), ([25000000, 0], [50000000, 25000000])],
        )


class Interface(Case):
    def test_names_and_order_of_the_arguments(self):
        self.takes(coins, ["amount", "parts"])


if __name__ == "__main__":
    unittest.main()
