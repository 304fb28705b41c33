"""Points 24 and 28: how rows are read, and how fractions and lists are written."""

import re
import unittest
from fractions import Fraction

from helper import Case, dice, pick
from roundcede.errors import Unclear
from roundcede.wording import listed, parse, shown

FORMS = (
    "house NAME", "pact GIVER TAKER PART FIRST LAST", "loss HOUSE DAY AMOUNT", "back", "deeds", "paper HOUSE DAY",
    "shares HOUSE DAY", "coins HOUSE DAY AMOUNT", "rounds HOUSE DAY AMOUNT MANY", "borne HOUSE DAY",
    "change HOUSE DAY GIVER TAKER PART FIRST LAST", "shut GIVER TAKER PART FIRST LAST",
)
TEXTS = ("NAME", "HOUSE", "GIVER", "TAKER")
READ = {
    "house oak": ["house", "oak"],
    "pact oak ash 500 10 20": ["pact", "oak", "ash", 500, 10, 20],
    "loss oak 15 100": ["loss", "oak", 15, 100],
    "back": ["back"],
    "deeds": ["deeds"],
    "paper oak 15": ["paper", "oak", 15],
    "shares oak 15": ["shares", "oak", 15],
    "coins oak 15 100": ["coins", "oak", 15, 100],
    "rounds oak 15 100 2": ["rounds", "oak", 15, 100, 2],
    "borne oak 15": ["borne", "oak", 15],
    "change oak 15 ash yew 500 10 20": ["change", "oak", 15, "ash", "yew", 500, 10, 20],
    "shut oak ash 500 10 20": ["shut", "oak", "ash", 500, 10, 20],
}
NUMBERS = {
    "0": 0, "1": 1, "9": 9, "10": 10, "42": 42, "1000": 1000, "5001": 5001, "1234567890": 1234567890,
    "1000000000000": 10 ** 12, "1234567890123": 1234567890123, "9999999999999": 9999999999999,
}
NO_NUMBERS = (
    "00", "01", "007", "0000000000000", "0123456789012", "10000000000000", "99999999999999", "12345678901234",
    "1" * 100, "0" * 14, "-1", "-0", "+1", "+0", "1.0", "1.", ".5", "1,000", "1_000", "1e3", "0x10", "0b1", "1a", "a1",
    "a", "one", "x", "1-", "1/2", "'1'", "(1)", "O", "l", "~", "!", "12345678901a3", "a234567890123", "123456789012a",
)
WORDS = ("oak", "O", "Oak", "0", "12", "007", "-1", "~", "!", "a,b", "a;b", "house", "back", "pact", "x" * 900, "{0}",
         "'", "\\n", "None")


def filled(form, number, text):
    """Fills in a form: a number for each word that is one, a text for each other."""
    words = form.split(" ")
    return words[:1] + [text if word in TEXTS else number for word in words[1:]]


def figured(words):
    return [str(word) for word in words]


def by_pattern(row):
    """Tells by patterns what a row is read as, and None where it is unclear."""
    for form in FORMS:
        words = form.split(" ")
        pattern = " ".join([words[0]] + ["([^ ]+)" if one in TEXTS else "(0|[1-9][0-9]{0,12})" for one in words[1:]])
        found = re.fullmatch(pattern, row)
        if found:
            return words[:1] + [one if kind in TEXTS else int(one) for kind, one in zip(words[1:], found.groups())]
    return None


class Parse(Case):
    def clear(self, row, wanted):
        told = parse(row)
        self.assertEqual(told, wanted)
        self.assertIs(type(told), list)
        self.assertEqual([type(one) for one in told], [type(one) for one in wanted])

    def unclear(self, row):
        with self.subTest(row=row):
            self.refused(Unclear, parse, row)

    def test_each_form(self):
        self.assertEqual(len(READ), 12)
        self.assertEqual({row.split()[0] for row in READ}, {form.split()[0] for form in FORMS})
        for row, wanted in READ.items():
            self.clear(row, wanted)

    def test_each_number_at_each_place(self):
        for form in FORMS:
            words = form.split(" ")
            for place in range(1, len(words)):
                if words[place] not in TEXTS:
                    for text, number in NUMBERS.items():
                        wanted = filled(form, 7, "oak")
                        wanted[place] = number
                        row = figured(wanted)
                        row[place] = text
                        self.clear(" ".join(row), wanted)

    def test_no_number_at_each_place_of_a_number(self):
        for form in FORMS:
            words = form.split(" ")
            for place in range(1, len(words)):
                if words[place] not in TEXTS:
                    for text in NO_NUMBERS:
                        row = figured(filled(form, 7, "oak"))
                        row[place] = text
                        self.unclear(" ".join(row))

    def test_each_sign_within_a_number(self):
        for sign in [chr(number) for number in range(ord(" "), ord("~") + 1)]:
            for word in (sign, sign + "5", "5" + sign, "5" + sign + "5"):
                row = f"paper oak {word}"
                if sign.isdigit() and not (sign == "0" and word == "05"):
                    self.clear(row, ["paper", "oak", int(word)])
                else:
                    self.unclear(row)

    def test_any_word_where_a_text_stands(self):
        for form in FORMS:
            for word in WORDS:
                wanted = filled(form, 7, word)
                if len(" ".join(figured(wanted))) <= 1000:
                    self.clear(" ".join(figured(wanted)), wanted)

    def test_a_word_too_few_and_too_many(self):
        for form in FORMS:
            words = figured(filled(form, 7, "oak"))
            for many in range(1, len(words)):
                self.unclear(" ".join(words[:many]))
            for more in ("7", "oak", "7 7", "oak oak"):
                self.unclear(" ".join(words) + " " + more)
            for place in range(1, len(words)):
                self.unclear(" ".join(words[:place] + words[place + 1:]))
                self.unclear(" ".join(words[:place] + [words[place]] + words[place:]))

    def test_blanks_too_many(self):
        for row in READ:
            for other in (" " + row, row + " ", "  " + row, row + "  ", " " + row + " "):
                self.unclear(other)
            words = row.split(" ")
            for place in range(1, len(words)):
                self.unclear(" ".join(words[:place]) + "  " + " ".join(words[place:]))
                self.unclear(" ".join(words[:place]) + "   " + " ".join(words[place:]))

    def test_blanks_in_the_place_of_words(self):
        for row in ("house ", "house  ", "paper  7", "paper oak ", "pact  ash 500 10 20", "pact oak  500 10 20"):
            self.unclear(row)

    def test_blanks_too_few(self):
        for row in READ:
            words = row.split(" ")
            for place in range(1, len(words)):
                joined = words[:place - 1] + [words[place - 1] + words[place]] + words[place + 1:]
                self.unclear(" ".join(joined))

    def test_the_empty_row_and_rows_of_blanks(self):
        for many in (0, 1, 2, 3, 1000):
            self.unclear(" " * many)

    def test_an_unknown_first_word(self):
        for word in ("houses", "hous", "pacts", "losses", "take_back", "take", "bac", "backs", "deed", "ways", "walk",
                     "share", "coin", "round", "born", "changes", "shutin", "none", "done", "refused:", "x", "0", "~"):
            for rest in ("", " oak", " oak 7", " oak 7 7", " oak 7 7 7", " oak ash 7 7 7", " oak 7 oak ash 7 7 7"):
                self.unclear(word + rest)

    def test_a_first_word_with_a_capital(self):
        for row in READ:
            first, rest = (row + " ").split(" ", 1)
            for place in range(len(first)):
                other = first[:place] + first[place].upper() + first[place + 1:]
                self.unclear((other + " " + rest).strip(" "))
            self.unclear((first.upper() + " " + rest).strip(" "))

    def test_a_first_word_with_another_sign(self):
        for row in READ:
            for other in ("." + row, row.replace(" ", ",", 1) + ",", row + "."):
                if by_pattern(other) is None:
                    self.unclear(other)

    def test_the_form_of_another_word(self):
        for form in FORMS:
            words = figured(filled(form, 7, "oak"))
            for other in FORMS:
                row = " ".join(other.split(" ")[:1] + words[1:])
                wanted = by_pattern(row)
                if wanted is None:
                    self.unclear(row)
                else:
                    self.clear(row, wanted)

    def test_scattered_rows(self):
        numbers = dice(24)
        firsts = [form.split(" ")[0] for form in FORMS] + ["House", "x"]
        clear = 0
        for turn in range(6000):
            row = pick(numbers, firsts)
            for more in range(next(numbers) % 6):
                row += pick(numbers, (" ",) * 6 + ("  ", "")) + pick(numbers, ("oak", "7", "10", "07", "-1"))
            wanted = by_pattern(row)
            if wanted is None:
                self.refused(Unclear, parse, row)
            else:
                self.assertEqual(parse(row), wanted)
                clear += 1
        self.assertGreater(clear, 200)

    def test_the_list_is_a_new_one(self):
        for row, wanted in READ.items():
            self.leaves_all_as_it_is(parse, row)
            told = parse(row)
            told.append(7)
            told[0] = "x"
            self.assertEqual(parse(row), wanted)


class Shown(Case):
    def test_by_hand(self):
        for one, text in (
            ((3, 7), "3/7"), ((0, 1), "0/1"), ((-1, 2), "-1/2"), ((1, 1), "1/1"), ((-1, 1), "-1/1"), ((4, 3), "4/3"),
            ((-7, 3), "-7/3"), ((10, 1), "10/1"), ((1, 1000), "1/1000"), ((100, 1001), "100/1001"),
            ((10 ** 60 + 7, 10 ** 50), "1" + "0" * 59 + "7/1" + "0" * 50), ((-10 ** 200, 1), "-1" + "0" * 200 + "/1"),
        ):
            told = shown(one)
            self.assertEqual(told, text)
            self.assertIs(type(told), str)

    def test_read_again(self):
        for top in range(-20, 21):
            for bottom in range(1, 12):
                one = Fraction(top, bottom)
                told = shown((one.numerator, one.denominator))
                self.assertRegex(told, r"^(0|-?[1-9][0-9]*)/[1-9][0-9]*$")
                self.assertEqual([int(word) for word in told.split("/")], [one.numerator, one.denominator])


class Listed(Case):
    def test_by_hand(self):
        for names, texts, told in (
            ([], [], ""), (["oak"], ["3/7"], "oak 3/7"), (["oak", "ash"], ["67", "33"], "oak 67, ash 33"),
            (["q", "oak", "ash"], ["1 2", "0 0", "3 4"], "q 1 2, oak 0 0, ash 3 4"),
            (["oak", "oak"], ["-1/2", "-1/2"], "oak -1/2, oak -1/2"), ([""], [""], " "), (["a, b"], ["c"], "a, b c"),
        ):
            answer = listed(names, texts)
            self.assertEqual(answer, told)
            self.assertIs(type(answer), str)

    def test_of_many(self):
        for many in range(20):
            names = [f"n{place}" for place in range(many)]
            texts = [f"t{place}" for place in range(many)]
            told = listed(names, texts)
            wanted = "".join(f", n{place} t{place}" for place in range(many))[2:]
            self.assertEqual(told, wanted)

    def test_the_order_stays(self):
        self.assertEqual(listed(["b", "a", "c"], ["2", "3", "1"]), "b 2, a 3, c 1")

    def test_what_is_handed_in_stays(self):
        names, texts = ["oak", "ash"], ["1/2", "1/2"]
        listed(names, texts)
        self.assertEqual((names, texts), (["oak", "ash"], ["1/2", "1/2"]))


class Interface(Case):
    def test_names_and_order_of_the_arguments(self):
        self.takes(parse, ["row"])
        self.takes(shown, ["one"])
        self.takes(listed, ["names", "texts"])


if __name__ == "__main__":
    unittest.main()
