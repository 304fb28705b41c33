import inspect
import unittest
from fractions import Fraction
from math import gcd

from roundcede import exact
from roundcede.exact import less, lowest, minus, over, plus, times

BIG = 10 ** 60 + 7
BIGGER = 3 ** 150

PAIRS = (
    (0, 1), (1, 1), (-1, 1), (1, 2), (-1, 2), (1, 3), (2, 3), (-2, 3), (3, 2), (5, 6), (-5, 6), (7, 1), (-7, 1),
    (999, 1000), (1, 1000), (-1, 1000), (10 ** 30 + 1, 10 ** 30), (10 ** 30 + 1, 10 ** 31 + 3),
    (-(10 ** 30) - 1, 10 ** 30), (BIG, BIGGER), (-BIG, BIGGER), (BIGGER, BIG), (1, BIGGER), (-1, BIGGER),
    (10 ** 199 + 1, 10 ** 199), (-1, 10 ** 200 - 1),
)


def lowered(top, bottom):
    one = Fraction(top, bottom)
    return (one.numerator, one.denominator)


FRACTIONS = tuple(lowered(top, bottom) for top, bottom in PAIRS)


class Case(unittest.TestCase):
    def fraction(self, told, wanted):
        """Asks for the very kinds too: True == 1 and [0, 1] would be no fraction."""
        self.assertIs(type(told), tuple)
        self.assertEqual([type(one) for one in told], [int, int])
        self.assertGreaterEqual(told[1], 1)
        self.assertEqual(gcd(told[0], told[1]), 1)
        self.assertEqual(told, (wanted.numerator, wanted.denominator))


class Lowest(Case):
    def test_nought_has_one_form(self):
        for bottom in (1, 2, 1000, -1, -2, -1000, BIG, -BIG):
            self.assertEqual(lowest(0, bottom), (0, 1))

    def test_one_has_one_form(self):
        for number in (1, 2, 1000, -1, -2, -1000, BIG, -BIG):
            self.assertEqual(lowest(number, number), (1, 1))
            self.assertEqual(lowest(number, -number), (-1, 1))

    def test_signs(self):
        self.assertEqual(lowest(3, 7), (3, 7))
        self.assertEqual(lowest(-3, 7), (-3, 7))
        self.assertEqual(lowest(3, -7), (-3, 7))
        self.assertEqual(lowest(-3, -7), (3, 7))

    def test_common_divisors_go(self):
        self.assertEqual(lowest(6, 4), (3, 2))
        self.assertEqual(lowest(-6, 4), (-3, 2))
        self.assertEqual(lowest(6, -4), (-3, 2))
        self.assertEqual(lowest(-6, -4), (3, 2))
        self.assertEqual(lowest(4, 6), (2, 3))
        self.assertEqual(lowest(1000, 250), (4, 1))
        self.assertEqual(lowest(250, 1000), (1, 4))

    def test_without_a_common_divisor_it_stays(self):
        self.assertEqual(lowest(35, 36), (35, 36))
        self.assertEqual(lowest(-36, 35), (-36, 35))

    def test_every_small_top_and_bottom(self):
        for top in range(-30, 31):
            for bottom in range(-30, 31):
                if bottom != 0:
                    self.fraction(lowest(top, bottom), Fraction(top, bottom))

    def test_numbers_of_sixty_figures_and_more(self):
        big = (BIG, 7 * BIG, 10 ** 60, 6 ** 90, 10 ** 199 + 9, 10 ** 200 - 1, BIGGER, 2 ** 220 * 3 ** 40)
        for top in big:
            for bottom in big:
                for sign in (1, -1):
                    self.fraction(lowest(sign * top, bottom), Fraction(sign * top, bottom))
                    self.fraction(lowest(top, sign * bottom), Fraction(top, sign * bottom))

    def test_neighbours_in_the_row_of_fibonacci(self):
        # The division of one by the other takes the most steps for these.
        one, two = 1, 1
        while two < 10 ** 200:
            one, two = two, one + two
        self.assertEqual(lowest(one, two), (one, two))
        self.assertEqual(lowest(12 * two, -12 * one), (-two, one))

    def test_a_great_common_divisor(self):
        self.assertEqual(lowest(3 * BIG, 7 * BIG), (3, 7))
        self.assertEqual(lowest(-3 * BIG, 7 * BIG), (-3, 7))
        self.assertEqual(lowest(3 * BIG, -7 * BIG), (-3, 7))

    def test_the_same_question_has_the_same_answer(self):
        self.assertEqual(lowest(10, 4), lowest(10, 4))


class FourRules(Case):
    RULES = (
        (plus, lambda one, two: one + two),
        (minus, lambda one, two: one - two),
        (times, lambda one, two: one * two),
        (over, lambda one, two: one / two),
    )

    def ask(self, one, two):
        for rule, wanted in self.RULES:
            if rule is over and two[0] == 0:
                continue
            with self.subTest(rule=rule.__name__, one=one, two=two):
                self.fraction(rule(one, two), wanted(Fraction(*one), Fraction(*two)))

    def test_each_with_each(self):
        for one in FRACTIONS:
            for two in FRACTIONS:
                self.ask(one, two)

    def test_equal_fractions(self):
        for one in FRACTIONS:
            self.assertEqual(minus(one, one), (0, 1))
            if one[0] != 0:
                self.assertEqual(over(one, one), (1, 1))
        self.assertEqual(plus((1, 2), (1, 2)), (1, 1))
        self.assertEqual(times((2, 3), (2, 3)), (4, 9))

    def test_a_fraction_and_the_same_with_its_sign_turned(self):
        for one in FRACTIONS:
            turned = (-one[0], one[1])
            self.assertEqual(plus(one, turned), (0, 1))
            if one[0] != 0:
                self.assertEqual(over(one, turned), (-1, 1))
        self.assertEqual(minus((1, 2), (-1, 2)), (1, 1))
        self.assertEqual(times((2, 3), (-2, 3)), (-4, 9))

    def test_one_bottom_for_both(self):
        self.assertEqual(plus((1, 6), (1, 6)), (1, 3))
        self.assertEqual(plus((1, 6), (5, 6)), (1, 1))
        self.assertEqual(minus((5, 6), (1, 6)), (2, 3))
        self.assertEqual(times((1, 6), (5, 6)), (5, 36))
        self.assertEqual(over((1, 6), (5, 6)), (1, 5))
        bottom = 10 ** 30
        self.assertEqual(plus((1, bottom), (bottom - 1, bottom)), (1, 1))
        self.assertEqual(minus((1, bottom), (bottom - 1, bottom)), lowered(2 - bottom, bottom))

    def test_nought_first_or_second(self):
        for one in FRACTIONS:
            self.assertEqual(plus((0, 1), one), one)
            self.assertEqual(plus(one, (0, 1)), one)
            self.assertEqual(minus((0, 1), one), (-one[0], one[1]))
            self.assertEqual(minus(one, (0, 1)), one)
            self.assertEqual(times((0, 1), one), (0, 1))
            self.assertEqual(times(one, (0, 1)), (0, 1))
            if one[0] != 0:
                self.assertEqual(over((0, 1), one), (0, 1))

    def test_over_with_a_second_below_nought(self):
        self.assertEqual(over((1, 2), (-3, 4)), (-2, 3))
        self.assertEqual(over((-1, 2), (-3, 4)), (2, 3))
        self.assertEqual(over((1, 1), (-1, 1000)), (-1000, 1))
        self.assertEqual(over((0, 1), (-3, 4)), (0, 1))
        self.assertEqual(over((1, 1), (-BIG, BIGGER)), (-BIGGER, BIG))

    def test_the_first_less_the_second_and_by_the_second(self):
        self.assertEqual(minus((1, 2), (1, 3)), (1, 6))
        self.assertEqual(minus((1, 3), (1, 2)), (-1, 6))
        self.assertEqual(over((1, 2), (1, 3)), (3, 2))
        self.assertEqual(over((1, 3), (1, 2)), (2, 3))

    def test_the_example_of_two_houses(self):
        # Two houses that pass half on to one another: one by one less a quarter comes to the first.
        self.assertEqual(over((1, 1), minus((1, 1), times((1, 2), (1, 2)))), (4, 3))

    def test_a_row_of_sums_is_exact(self):
        told, wanted = (0, 1), Fraction(0)
        for bottom in range(1, 101):
            told, wanted = plus(told, (1, bottom)), wanted + Fraction(1, bottom)
        self.fraction(told, wanted)
        for bottom in range(1, 101):
            told = minus(told, (1, bottom))
        self.assertEqual(told, (0, 1))


class Less(Case):
    def test_each_with_each(self):
        for one in FRACTIONS:
            for two in FRACTIONS:
                with self.subTest(one=one, two=two):
                    self.assertIs(less(one, two), Fraction(*one) < Fraction(*two))

    def test_equal_ones(self):
        for one in FRACTIONS:
            self.assertIs(less(one, one), False)

    def test_below_nought(self):
        self.assertIs(less((-1, 2), (1, 3)), True)
        self.assertIs(less((1, 3), (-1, 2)), False)
        self.assertIs(less((-1, 2), (-1, 3)), True)
        self.assertIs(less((-1, 3), (-1, 2)), False)
        self.assertIs(less((-1, 2), (0, 1)), True)
        self.assertIs(less((0, 1), (-1, 2)), False)
        self.assertIs(less((0, 1), (1, 2)), True)
        self.assertIs(less((1, 2), (0, 1)), False)

    def test_one_part_of_a_very_great_bottom(self):
        for bottom in (10 ** 30 + 1, 10 ** 60, 10 ** 200 - 1):
            for top in (1, bottom // 2, bottom - 2, -1, -(bottom // 3)):
                one, two = lowered(top, bottom), lowered(top + 1, bottom)
                self.assertIs(less(one, two), True)
                self.assertIs(less(two, one), False)

    def test_great_neighbours_of_different_bottoms(self):
        number = 10 ** 100
        one, two = (number - 1, number), (number, number + 1)
        self.assertIs(less(one, two), True)
        self.assertIs(less(two, one), False)


class Interface(unittest.TestCase):
    def test_names_and_order_of_the_arguments(self):
        for name in ("lowest", "plus", "minus", "times", "over", "less"):
            with self.subTest(name=name):
                asked = inspect.signature(getattr(exact, name)).parameters.values()
                wanted = ["top", "bottom"] if name == "lowest" else ["one", "two"]
                self.assertEqual([one.name for one in asked], wanted)
                self.assertTrue(all(one.default is one.empty for one in asked))
                self.assertTrue(all(one.kind is one.POSITIONAL_OR_KEYWORD for one in asked))


if __name__ == "__main__":
    unittest.main()
