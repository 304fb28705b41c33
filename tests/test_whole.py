"""Points 1, 2 and 13 over the whole program: new lists, questions that change nothing, books that share nothing."""

import unittest

from helper import NAMES, Case, Plain, book_of, everything, lists_in, outcome, told_to
from roundcede.book import Book
from roundcede.desk import Desk, answers
from roundcede.errors import CedeError, ShutIn

ROWS = ("oak ash 500 0 9", "ash oak 999 5 9", "yew oak 1000 5 5000", "oak 5 100", "yew 9 33", "oak ash 500 5 9")
DAYS = [0, 5, 9, 10]
QUESTIONS = (
    ("houses",), ("pacts",), ("losses",), ("deeds",), ("ways", 5), ("paper", "oak", 5), ("shares", "oak", 5),
    ("coins", "oak", 5, 100), ("rounds", "oak", 5, 100, 3), ("rounds", "oak", 5, 100, 0),
    ("change", "oak", 5, "hornbeam", "oak", 3, 0, 9), ("shut", "ash", "oak", 1, 0, 9),
)
REFUSED = (
    ("house", "Oak"), ("house", "oak"), ("pact", "oak", "beech", 1, 0, 0), ("pact", "oak", "oak", 1, 0, 0),
    ("pact", "oak", "ash", 1, 1, 0), ("pact", "oak", "ash", 0, 0, 0), ("pact", "oak", "ash", 501, 0, 0),
    ("pact", "ash", "oak", 1, 0, 9), ("loss", "beech", 0, 1), ("loss", "oak", 5001, 1), ("loss", "oak", 0, 0),
    ("ways", 5001), ("paper", "beech", 0), ("paper", "oak", -1), ("shares", "beech", 0), ("shares", "oak", 5001),
    ("coins", "beech", 0, 1), ("coins", "oak", 0, 0), ("rounds", "beech", 0, 1, 1), ("rounds", "oak", 0, 1, 301),
    ("borne", "beech", 0), ("borne", "oak", 5001), ("change", "beech", 0, "oak", "ash", 1, 0, 0),
    ("change", "oak", 5001, "oak", "ash", 1, 0, 0), ("change", "oak", 0, "oak", "oak", 1, 0, 0),
    ("change", "oak", 0, "oak", "ash", 501, 0, 0), ("change", "oak", 0, "ash", "oak", 1, 0, 9),
    ("shut", "oak", "beech", 1, 0, 0), ("shut", "oak", "ash", 501, 0, 0),
)


def book():
    return book_of(4, *ROWS)


def is_refusal(told):
    return isinstance(told, tuple) and isinstance(told[0], type) and issubclass(told[0], CedeError)


class NewLists(Case):
    def test_of_each_question(self):
        one = book()
        for kind, *handed in QUESTIONS:
            with self.subTest(kind=kind):
                self.leaves_all_as_it_is(getattr(one, kind), *handed)
                self.assertEqual(everything(one, DAYS), everything(book(), DAYS))

    def test_no_list_is_told_by_two_questions(self):
        one = book()
        told = [getattr(one, kind)(*handed) for kind, *handed in QUESTIONS]
        found = [id(some) for answer in told for some in lists_in(answer)]
        self.assertEqual(len(found), len(set(found)))

    def test_whatever_is_done_with_them_no_later_answer_changes(self):
        one = book()
        for kind, *handed in QUESTIONS:
            for some in reversed(lists_in(getattr(one, kind)(*handed))):
                some.clear()
                some.extend(["beech", 7])
        self.assertEqual(everything(one, DAYS), everything(book(), DAYS))
        self.assertIsNone(one.house("beech"))
        self.assertEqual(one.take_back(), "house beech")
        self.assertEqual(one.take_back(), "pact oak ash 500 5 9")

    def test_that_of_the_error(self):
        one = book()
        for call in (("pact", "ash", "oak", 1, 0, 9), ("change", "oak", 0, "ash", "oak", 1, 0, 9)):
            first = self.refused(ShutIn, getattr(one, call[0]), *call[1:])
            second = self.refused(ShutIn, getattr(one, call[0]), *call[1:])
            self.assertEqual((first.day, first.names), (5, ["oak", "ash", "yew"]))
            self.assertIsNot(first.names, second.names)
            first.names.clear()
            first.day = 0
            self.assertEqual((second.day, second.names), (5, ["oak", "ash", "yew"]))
            third = self.refused(ShutIn, getattr(one, call[0]), *call[1:])
            self.assertEqual((third.day, third.names), (5, ["oak", "ash", "yew"]))
        self.assertEqual(one.shut("ash", "oak", 1, 0, 9), (5, ["oak", "ash", "yew"]))
        self.assertEqual(everything(one, DAYS), everything(book(), DAYS))

    def test_of_a_desk(self):
        rows = ["house oak", "deeds"]
        self.leaves_all_as_it_is(answers, rows)


class ChangesNothing(Case):
    def test_each_refusal(self):
        one = book()
        before = everything(book(), DAYS)
        for kind, *handed in REFUSED:
            with self.subTest(kind=kind, handed=handed):
                self.assertTrue(is_refusal(outcome(getattr(one, kind), *handed)))
                self.assertEqual(everything(one, DAYS), before)

    def test_each_question(self):
        one = book()
        before = everything(book(), DAYS)
        for kind, *handed in QUESTIONS + (("borne", "oak", 9),):
            with self.subTest(kind=kind):
                told = outcome(getattr(one, kind), *handed)
                self.assertFalse(is_refusal(told))
                self.assertEqual(everything(one, DAYS), before)
                self.assertEqual(outcome(getattr(one, kind), *handed), told)

    def test_each_refusal_in_whatever_turn(self):
        """What was refused before leaves nothing behind that a later deed meets."""
        one, two = Book(), Book()
        for row in NAMES[:4] + list(ROWS):
            for kind, *handed in REFUSED:
                if kind not in ("house", "pact", "loss") or is_refusal(outcome(getattr(book_like(two), kind), *handed)):
                    outcome(getattr(one, kind), *handed)
            told_to(one, [row])
            told_to(two, [row])
            self.assertEqual(one.deeds(), two.deeds())
        self.assertEqual(everything(one, DAYS), everything(two, DAYS))


def book_like(one):
    return told_to(Book(), [row.split(" ", 1)[1] for row in one.deeds()])


class ShareNothing(Case):
    def test_two_books_told_by_turns(self):
        one, two = Book(), Book()
        plain, other = Plain(), Plain()
        rows = list(NAMES[:4]) + list(ROWS)
        others = ["ash", "oak", "ash oak 1000 0 9", "oak 5 7", "q", "oak q 250 5 5", "ash 5 1000", "q 0 1"]
        for place in range(len(rows)):
            told_to(one, [rows[place]])
            told_to(plain, [rows[place]])
            told_to(two, others[place:place + 1])
            told_to(other, others[place:place + 1])
            self.assertEqual(everything(one, DAYS), everything(plain, DAYS))
            self.assertEqual(everything(two, DAYS), everything(other, DAYS))
        while one.deeds():
            self.assertEqual(one.take_back(), plain.take_back())
            self.assertEqual(everything(two, DAYS), everything(other, DAYS))
        self.assertEqual(len(two.deeds()), 8)

    def test_two_desks_told_by_turns(self):
        one, two = Desk(), Desk()
        rows = ["house oak", "house ash", "pact oak ash 500 0 9", "loss oak 5 100", "shares oak 5", "borne oak 5",
                "back", "back", "shares oak 5", "deeds"]
        others = ["house ash", "house oak", "pact oak ash 250 5 5", "shares oak 5", "back", "deeds", "shares oak 5",
                  "loss oak 5 3", "borne oak 9", "deeds"]
        told = [(one.answer(row), two.answer(other)) for row, other in zip(rows, others)]
        self.assertEqual([first for first, second in told], answers(rows))
        self.assertEqual([second for first, second in told], answers(others))

    def test_a_desk_and_a_book_share_nothing(self):
        desk, one = Desk(), Book()
        one.house("oak")
        self.assertEqual(desk.answer("deeds"), "none")
        desk.answer("house ash")
        self.assertEqual(one.houses(), ["oak"])

    def test_many_new_books_are_all_empty(self):
        for turn in range(5):
            one = Book()
            self.assertEqual([one.houses(), one.pacts(), one.losses(), one.deeds(), one.ways(0)], [[]] * 5)
            told_to(one, NAMES[:2] + ["oak ash 5 0 9", "oak 3 4"])


if __name__ == "__main__":
    unittest.main()
