"""Points 13 and 14: a new book, and houses."""

import string
import unittest

from helper import NAMES, Case, book_of, everything, told_to
from roundcede.book import Book
from roundcede.errors import BadName, Full, KnownHouse

SIGNS = [chr(number) for number in range(ord(" "), ord("~") + 1)]
OTHERS = [sign for sign in SIGNS if sign not in string.ascii_lowercase]


class NewBook(Case):
    def test_a_new_book_has_nothing(self):
        book = Book()
        self.assertEqual(everything(book, [0, 1, 4999, 5000]), [[], [], [], [], [], [], [], []])

    def test_a_new_book_has_nothing_though_another_has(self):
        told = book_of(3, "oak ash 10 0 5000", "oak 3 4")
        self.assertEqual([Book().houses(), Book().pacts(), Book().losses(), Book().deeds()], [[]] * 4)
        self.assertEqual(len(told.deeds()), 5)


class House(Case):
    def is_bad(self, name):
        for standing in (0, 2, 15):
            book = book_of(standing)
            self.refused(BadName, book.house, name)
            self.assertEqual(book.houses(), NAMES[:standing])
            self.assertEqual(book.deeds(), [f"house {one}" for one in NAMES[:standing]])

    def is_good(self, name):
        for standing in (0, 2, 14):
            others = [one for one in NAMES if one != name][:standing]
            book = told_to(Book(), others)
            self.assertIsNone(book.house(name))
            self.assertEqual(book.houses(), others + [name])
            self.assertEqual(book.deeds()[-1], f"house {name}")

    def test_the_signs_asked_for_are_all(self):
        self.assertEqual(len(SIGNS), 95)
        self.assertEqual(len(OTHERS), 69)

    def test_of_no_letter(self):
        self.is_bad("")

    def test_of_one_to_eight_letters(self):
        for many in range(1, 9):
            self.is_good("z" * many)
            self.is_good("bcdefghi"[:many])
        self.is_good("a")

    def test_of_nine_letters_and_more(self):
        for many in (9, 10, 16, 17, 100, 1000):
            self.is_bad("a" * many)
        self.is_bad("ninebirds")

    def test_each_small_letter_at_each_place(self):
        for letter in string.ascii_lowercase:
            for many in (1, 2, 8):
                for place in range(many):
                    self.is_good("k" * place + letter + "k" * (many - place - 1))

    def test_each_other_sign_at_each_place(self):
        for sign in OTHERS:
            for many in (1, 2, 8):
                for place in range(many):
                    with self.subTest(sign=sign, many=many, place=place):
                        self.is_bad("k" * place + sign + "k" * (many - place - 1))

    def test_a_blank_at_an_end_of_a_known_name(self):
        for name in (" oak", "oak ", " ", "  ", "oak ash", "OAK", "Oak", "oaK"):
            self.is_bad(name)

    def test_a_known_name(self):
        for standing in range(1, 15):
            for name in NAMES[:standing]:
                book = book_of(standing)
                self.refused(KnownHouse, book.house, name)
                self.assertEqual(book.houses(), NAMES[:standing])
                self.assertIsNone(book.house("new"))
                self.refused(KnownHouse, book.house, "new")
                self.assertEqual(book.houses(), NAMES[:standing] + ["new"])

    def test_names_that_begin_alike_are_different(self):
        book = Book()
        names = ["a", "aa", "aaa", "b", "ab", "ba"]
        for many, name in enumerate(names):
            book.house(name)
            self.assertEqual(book.houses(), names[:many + 1])

    def test_the_order_is_that_of_writing(self):
        for names in (NAMES, NAMES[::-1], sorted(NAMES), sorted(NAMES)[::-1]):
            book = Book()
            for many, name in enumerate(names):
                self.assertEqual(book.houses(), names[:many])
                self.assertIsNone(book.house(name))
            self.assertEqual(book.houses(), names)

    def test_the_sixteenth_house(self):
        book = book_of(14)
        self.assertIsNone(book.house("new"))
        for name in ("a", "newer", "abcdefgh"):
            self.refused(Full, book.house, name)
            self.assertEqual(book.houses(), NAMES[:14] + ["new"])

    def test_after_a_taking_back_there_is_room(self):
        book = book_of(15)
        self.refused(Full, book.house, "new")
        book.take_back()
        self.refused(KnownHouse, book.house, NAMES[0])
        self.assertIsNone(book.house("new"))
        self.assertEqual(book.houses(), NAMES[:14] + ["new"])
        self.refused(Full, book.house, NAMES[14])

    def test_a_house_that_was_taken_back_is_known_no_more(self):
        book = book_of(2)
        self.refused(KnownHouse, book.house, "ash")
        book.take_back()
        self.assertIsNone(book.house("ash"))
        self.refused(KnownHouse, book.house, "ash")

    def test_a_bad_name_goes_ahead_of_a_full_book(self):
        book = book_of(15)
        for name in ("", "A", "new1", "ninebirds", NAMES[0] + " "):
            self.refused(BadName, book.house, name)

    def test_a_known_name_goes_ahead_of_a_full_book(self):
        book = book_of(15)
        for name in NAMES:
            self.refused(KnownHouse, book.house, name)
        self.assertEqual(book.houses(), NAMES)

    def test_a_bad_name_is_bad_however_often_it_is_told(self):
        book = book_of(1)
        for turn in range(3):
            self.refused(BadName, book.house, "Oak")
        self.assertEqual(book.houses(), ["oak"])

    def test_a_refusal_changes_no_answer(self):
        rows = ("oak ash 300 2 9", "ash yew 1000 0 5000", "oak 5 100", "yew 9 33")
        book = book_of(15, *rows)
        before = everything(book_of(15, *rows), [1, 2, 9, 10])
        for error, name in ((BadName, "x y"), (KnownHouse, "yew"), (Full, "new")):
            self.refused(error, book.house, name)
            self.assertEqual(everything(book, [1, 2, 9, 10]), before)

    def test_a_new_house_is_the_last_in_each_row(self):
        book = book_of(2, "oak ash 500 0 5000", "ash oak 500 0 5000")
        self.assertEqual(book.shares("oak", 1), [(2, 3), (1, 3)])
        book.house("yew")
        self.assertEqual(book.paper("oak", 1), [(4, 3), (2, 3), (0, 1)])
        self.assertEqual(book.shares("oak", 1), [(2, 3), (1, 3), (0, 1)])
        self.assertEqual(book.coins("oak", 1, 100), [67, 33, 0])
        self.assertEqual(book.rounds("yew", 1, 3, 1), [([0, 0, 3], [0, 0, 0]), ([0, 0, 0], [0, 0, 3000])])
        self.assertEqual(book.shares("yew", 1), [(0, 1), (0, 1), (1, 1)])


if __name__ == "__main__":
    unittest.main()
