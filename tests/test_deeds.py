"""Points 22 and 23: taking back, and the rows of the deeds that stand."""

import unittest

from helper import NAMES, Case, book_of, dice, everything, outcome, pick, told_to, words_of
from roundcede.book import Book
from roundcede.desk import Desk
from roundcede.errors import CedeError, NothingDone

ROWS = [
    "house oak", "house ash", "pact oak ash 500 10 20", "loss oak 15 100", "house yew", "pact ash yew 1000 0 5000",
    "loss ash 0 1000000000000", "pact ash oak 1 5001 5002", "pact yew oak 999 12 12", "loss yew 5000 1",
    "house hornbeam",
]
STANDING = [row for row in ROWS if "5001" not in row]
DAYS = [0, 10, 12, 15, 20, 21, 5000]

REFUSED = (
    ("house", "Oak"), ("house", ""), ("house", "oak"), ("pact", "oak", "beech", 1, 0, 1),
    ("pact", "oak", "oak", 1, 0, 1), ("pact", "oak", "ash", 1, 2, 1), ("pact", "oak", "ash", 0, 0, 1),
    ("pact", "oak", "ash", 501, 0, 10),
    ("loss", "beech", 0, 1), ("loss", "oak", 5001, 1), ("loss", "oak", 0, 0), ("ways", -1), ("paper", "beech", 0),
    ("shares", "oak", 5001), ("coins", "oak", 0, 0), ("rounds", "oak", 0, 1, 301), ("borne", "oak", -1),
    ("change", "oak", 0, "oak", "ash", 501, 0, 10), ("shut", "oak", "oak", 1, 0, 1),
)
ASKED = (
    ("houses",), ("pacts",), ("losses",), ("deeds",), ("ways", 12), ("paper", "oak", 12), ("shares", "oak", 12),
    ("coins", "oak", 12, 5), ("rounds", "oak", 12, 5, 3), ("borne", "oak", 5000),
    ("change", "oak", 12, "oak", "ash", 1, 0, 99), ("shut", "oak", "ash", 1, 0, 99),
)


def do(book, row):
    words = words_of(row)
    return outcome(getattr(book, words[0]), *words[1:])


def after(rows):
    book = Book()
    for row in rows:
        do(book, row)
    return book


def scattered_rows(seed, many):
    """Makes the rows of deeds of all kinds in turns, all of which stand."""
    numbers = dice(seed)
    book = Book()
    while len(book.deeds()) < many:
        kind = pick(numbers, ("house", "pact", "pact", "pact", "loss"))
        one, two = pick(numbers, NAMES), pick(numbers, NAMES)
        first, last = sorted(pick(numbers, (0, 1, 5, 6, 40, 5000)) for end in range(2))
        do(book, {
            "house": f"house {one}",
            "pact": f"pact {one} {two} {pick(numbers, (1, 100, 500, 1000))} {first} {last}",
            "loss": f"loss {one} {first} {pick(numbers, (1, 99, 10 ** 12))}",
        }[kind])
    return book.deeds()


class Deeds(Case):
    def test_no_deed_stands(self):
        self.assertEqual(Book().deeds(), [])

    def test_the_rows(self):
        book = Book()
        book.house("q")
        book.house("hornbeam")
        book.pact("hornbeam", "q", 7, 0, 5000)
        book.loss("q", 0, 10 ** 12)
        book.pact("hornbeam", "q", 7, 0, 5000)
        book.loss("q", 5000, 1)
        self.assertEqual(book.deeds(), [
            "house q", "house hornbeam", "pact hornbeam q 7 0 5000", "loss q 0 1000000000000",
            "pact hornbeam q 7 0 5000", "loss q 5000 1",
        ])
        self.assertEqual([type(row) for row in book.deeds()], [str] * 6)

    def test_after_each_deed(self):
        book = Book()
        standing = []
        for row in ROWS:
            told = do(book, row)
            if row in STANDING:
                self.assertIsNone(told)
                standing.append(row)
            self.assertEqual(book.deeds(), standing)
        self.assertEqual(standing, STANDING)

    def test_what_is_asked_or_refused_is_no_deed(self):
        book = after(ROWS)
        for call in REFUSED + ASKED:
            told = outcome(getattr(book, call[0]), *call[1:])
            refused = isinstance(told, tuple) and isinstance(told[0], type) and issubclass(told[0], CedeError)
            self.assertEqual(refused, call in REFUSED, call)
            self.assertEqual(book.deeds(), STANDING)
            self.assertEqual(book.take_back(), STANDING[-1])
            do(book, STANDING[-1])

    def test_a_taking_back_is_no_deed(self):
        book = after(ROWS)
        for many in range(len(STANDING), 0, -1):
            self.assertEqual(book.deeds(), STANDING[:many])
            book.take_back()
        self.assertEqual(book.deeds(), [])

    def test_told_to_a_new_desk(self):
        for seed in (1, 2):
            rows = scattered_rows(seed, 70)
            self.assertEqual({row.split()[0] for row in rows}, {"house", "pact", "loss"})
            one, two = Desk(), Desk()
            # What was refused, asked or taken back on the way to these deeds leaves nothing behind.
            for row in rows:
                for other in ("house Oak", "shares oak 3", row, "back", "pact oak oak 1 0 0", row):
                    one.answer(other)
            self.assertEqual(after(rows).deeds(), rows)
            self.assertEqual(one.answer("deeds"), "; ".join(rows))
            told = [two.answer(row) for row in after(rows).deeds()]
            self.assertEqual(told, [f"done {many + 1}" for many in range(70)])
            for row in all_asked(after(rows).houses()):
                self.assertEqual(one.answer(row), two.answer(row))
            for row in rows[::-1]:
                self.assertEqual(two.answer("back"), "back " + row)

    def test_told_to_a_new_book(self):
        for seed in (3, 4, 5):
            rows = scattered_rows(seed, 40)
            one, two = after(rows), after(after(rows).deeds())
            self.assertEqual(everything(one, DAYS[::2]), everything(two, DAYS[::2]))


def all_asked(names):
    """Makes rows of every question about some days."""
    rows = ["deeds"]
    for day in (0, 1, 6, 40, 41):
        for name, other in zip(names, names[1:] + names[:1]):
            rows += [f"paper {name} {day}", f"shares {name} {day}", f"coins {name} {day} 1000000"]
            rows += [f"rounds {name} {day} 3 4", f"borne {name} {day}"]
            rows += [f"change {name} {day} {name} {other} 99 {day} 41"]
            rows += [f"shut {other} {name} {part} {day} 5000" for part in (1, 500, 1000)]
    return rows


class TakeBack(Case):
    def test_nothing_done(self):
        book = Book()
        for turn in range(2):
            self.refused(NothingDone, book.take_back)
            self.assertEqual(book.deeds(), [])
        book.house("oak")
        self.assertEqual(book.take_back(), "house oak")
        self.refused(NothingDone, book.take_back)
        self.refused(NothingDone, book.take_back)
        book.house("ash")
        self.assertEqual(book.deeds(), ["house ash"])

    def test_a_book_that_refused_all_has_nothing_to_take_back(self):
        book = Book()
        for call in REFUSED:
            if call != ("house", "oak"):
                outcome(getattr(book, call[0]), *call[1:])
        self.refused(NothingDone, book.take_back)

    def test_each_kind(self):
        for row in ("house fir", "pact yew hornbeam 5 0 9", "loss ash 3 17", "loss ash 5000 1000000000000"):
            book = after(ROWS)
            self.assertIsNone(do(book, row))
            told = book.take_back()
            self.assertEqual(told, row)
            self.assertIs(type(told), str)
            self.assertEqual(everything(book, DAYS), everything(after(ROWS), DAYS))

    def test_one_after_the_other(self):
        book = after(ROWS)
        for many in range(len(STANDING), 0, -1):
            self.assertEqual(book.take_back(), STANDING[many - 1])
            self.assertEqual(everything(book, DAYS), everything(after(STANDING[:many - 1]), DAYS))
        self.refused(NothingDone, book.take_back)

    def test_after_it_a_deed_is_done_or_refused_as_before(self):
        rows = STANDING + ["pact oak yew 500 10 20"]
        for many in range(len(rows)):
            book = after(rows[:many + 1])
            book.take_back()
            for call in REFUSED + ASKED:
                told = outcome(getattr(book, call[0]), *call[1:])
                self.assertEqual(told, outcome(getattr(after(rows[:many]), call[0]), *call[1:]))
                if call[0] == "house" and told is None:
                    self.assertEqual(book.take_back(), f"house {call[1]}")
                if call[0] in ("pact", "loss") and told is None:
                    book.take_back()
            self.assertIsNone(do(book, rows[many]))
            self.assertEqual(book.deeds(), rows[:many + 1])

    def test_told_again_and_taken_back_again(self):
        book = after(STANDING)
        for turn in range(3):
            self.assertEqual(book.take_back(), STANDING[-1])
            self.assertEqual(book.take_back(), STANDING[-2])
            do(book, STANDING[-2])
            do(book, STANDING[-1])
        self.assertEqual(everything(book, DAYS), everything(after(STANDING), DAYS))

    def test_equal_deeds_are_taken_back_one_by_one(self):
        book = book_of(2, "oak ash 250 0 9", "oak ash 250 0 9", "oak 3 8", "oak 3 8")
        self.assertEqual(book.borne("ash", 3), 8)
        self.assertEqual(book.take_back(), "loss oak 3 8")
        self.assertEqual(book.borne("ash", 3), 4)
        book.take_back()
        self.assertEqual(book.take_back(), "pact oak ash 250 0 9")
        self.assertEqual(book.shares("oak", 3), [(3, 4), (1, 4)])

    def test_a_full_book(self):
        book = told_to(book_of(15, *["oak ash 12 0 5000"] * 80), ["oak 3 5"] * 200)
        self.assertEqual(len(book.deeds()), 295)
        for many in range(294, 0, -1):
            book.take_back()
            self.assertEqual(len(book.deeds()), many)
        self.assertEqual(book.take_back(), "house oak")
        self.refused(NothingDone, book.take_back)


if __name__ == "__main__":
    unittest.main()
