"""Points 15, 20 and 21: what a pact, and a question about one, is refused for, alone and several at a time."""

import unittest

from helper import Case, book_of, everything, outcome, words_of
from roundcede.errors import DaysTurned, Full, OutOfRange, ShutIn, ToItself, TooMuch, UnknownHouse

# What stands: oak passes all on to ash on the days 10 to 20, and q to oak on some of them; yew can pass 400 more
# on; on the days 5 and 30 ash can pass 999 on at most. Of fir and box nothing is asked.
STANDING = (
    "oak ash 1000 10 20", "yew oak 600 0 5000", "q oak 1000 15 18", "ash elm 1 5 5", "ash elm 1 30 30",
    "oak 12 100", "yew 4 1000",
)
FILLERS = ("fir box 10 0 5000",) * 75

ALONE = {
    UnknownHouse: (
        "beech oak 5 1 2", "oak beech 5 1 2", "beech larch 5 1 2", "Oak ash 5 1 2", "oak Ash 5 1 2", "oa ash 5 1 2",
        "oakk ash 5 1 2", "ash bay 5 1 2", "bay ash 5 1 2",
    ),
    ToItself: ("oak oak 5 1 2", "elm elm 5 0 5000", "box box 1 5000 5000"),
    DaysTurned: ("elm oak 5 2 1", "elm oak 5 1 0", "elm oak 5 5000 0", "elm oak 5 5000 4999"),
    OutOfRange: (
        "elm oak 0 1 2", "elm oak -1 1 2", "elm oak 1001 1 2", f"elm oak {10 ** 200} 1 2", f"elm oak {-10 ** 200} 1 2",
        "elm oak 5 -1 2", "elm oak 5 -1 -1", "elm oak 5 -2 -1", "elm oak 5 -1 5000", f"elm oak 5 {-10 ** 200} 2",
        "elm oak 5 1 5001", "elm oak 5 5001 5001", "elm oak 5 5000 5001", "elm oak 5 0 5001", "elm oak 5 5001 5002",
        f"elm oak 5 1 {10 ** 200}", "elm oak 5 -1 5001", "elm oak 0 -1 5001", "elm oak 1001 5001 5001",
    ),
    TooMuch: (
        "yew ash 401 5 5", "yew ash 401 0 0", "yew ash 401 5000 5000", "yew oak 1000 0 5000", "oak ash 1 20 20",
        "oak yew 1 0 10", "oak elm 1 20 5000", "q ash 1 17 17", "ash oak 1000 5 5", "ash elm 1000 30 30",
    ),
    ShutIn: (
        "ash oak 1000 12 14", "ash oak 1000 10 10", "ash oak 1000 20 20", "ash oak 1000 6 29", "ash oak 1000 20 29",
        "ash q 1000 15 15", "ash q 1000 18 29",
    ),
}

TOGETHER = {
    # Of an unknown house's pacts there are none, so it can be shut in with nobody.
    (UnknownHouse, ToItself): ("beech beech 5 1 2",),
    (UnknownHouse, DaysTurned): ("beech oak 5 2 1", "oak beech 5 2 1"),
    (UnknownHouse, OutOfRange): (
        "beech oak 0 1 2", "oak beech 0 1 2", "beech oak 1001 1 2", "oak beech 1001 1 2", "beech oak 5 -1 2",
        "oak beech 5 -1 2", "beech oak 5 1 5001", "oak beech 5 1 5001",
    ),
    (UnknownHouse, TooMuch): ("yew beech 401 5 5", "oak beech 1 15 15"),
    (ToItself, DaysTurned): ("oak oak 5 2 1", "elm elm 5 5000 0"),
    (ToItself, OutOfRange): ("elm elm 0 1 2", "elm elm 1001 1 2", "elm elm 5 -1 2", "elm elm 5 1 5001"),
    (ToItself, TooMuch): ("yew yew 401 5 5", "oak oak 1 15 15"),
    (ToItself, ShutIn): ("elm elm 1000 1 2", "ash ash 1000 15 15"),
    (DaysTurned, OutOfRange): (
        "elm oak 0 2 1", "elm oak 1001 2 1", "elm oak 5 2 -1", "elm oak 5 -1 -2", "elm oak 5 5001 5000",
        "elm oak 5 5002 5001", "elm oak 5 5001 -1", f"elm oak 5 {10 ** 200} {-10 ** 200}",
    ),
    (DaysTurned, TooMuch): ("yew ash 401 6 5", "oak elm 1 16 15"),
    (DaysTurned, ShutIn): ("ash oak 1000 14 12",),
    (OutOfRange, TooMuch): ("yew ash 1001 5 5", "yew ash 401 -1 5", "yew ash 401 5 5001", "oak ash 1 20 5001"),
    (OutOfRange, ShutIn): ("ash oak 1000 -1 4", "ash oak 1000 12 5001", "ash oak 1000 -1 12"),
    # Too much on another day than that on which somebody is shut in, a later one or an earlier one.
    (TooMuch, ShutIn): ("ash oak 1000 12 30", "ash oak 1000 5 12", "ash oak 1000 0 5000", "ash q 1000 16 30"),
}
FINE = ("elm oak 1000 0 5000", "yew ash 400 0 5000", "ash oak 999 0 5000", "oak ash 1 0 9", "oak ash 1000 21 5000",
        "fir ash 1 5000 5000", "fir ash 250 0 0", "ash oak 1000 21 29", "ash yew 1000 15 15", "hornbeam oak 1 0 0")

SHUT_IN = {
    "ash oak 1000 12 14": (12, ["oak", "ash"]),
    "ash oak 1000 10 10": (10, ["oak", "ash"]),
    "ash oak 1000 20 20": (20, ["oak", "ash"]),
    "ash oak 1000 6 29": (10, ["oak", "ash"]),
    "ash oak 1000 20 29": (20, ["oak", "ash"]),
    "ash q 1000 15 15": (15, ["oak", "ash", "q"]),
    "ash q 1000 18 29": (18, ["oak", "ash", "q"]),
}


def some():
    return book_of(8, *STANDING)


def eighty():
    return book_of(8, *STANDING, *FILLERS)


def due():
    """Tells each row with the refusal that is raised for it, where fewer than eighty pacts stand."""
    rows = [(error, row) for error, some_rows in ALONE.items() for row in some_rows]
    return rows + [(errors[0], row) for errors, some_rows in TOGETHER.items() for row in some_rows]


class Pact(Case):
    def test_each_refusal_alone_and_each_two_together(self):
        for make in (some, eighty):
            book = make()
            before = book.deeds()
            for error, row in due():
                with self.subTest(make=make.__name__, row=row):
                    self.refused(error, book.pact, *words_of(row))
                    self.assertEqual(book.deeds(), before)
            self.assertEqual(everything(book, [0, 12, 16]), everything(make(), [0, 12, 16]))

    def test_each_two_are_asked_for(self):
        order = [UnknownHouse, ToItself, DaysTurned, OutOfRange, TooMuch, ShutIn]
        pairs = {(one, two) for place, one in enumerate(order) for two in order[place + 1:]}
        self.assertEqual(pairs - set(TOGETHER), {(UnknownHouse, ShutIn)})
        self.assertEqual(set(ALONE), set(order))

    def test_full_alone(self):
        book = eighty()
        before = book.deeds()
        self.assertEqual(len(book.pacts()), 80)
        for row in FINE:
            with self.subTest(row=row):
                self.refused(Full, book.pact, *words_of(row))
                self.assertEqual(book.deeds(), before)

    def test_what_is_fine_is_done(self):
        for row in FINE:
            with self.subTest(row=row):
                book = some()
                self.assertIsNone(book.pact(*words_of(row)))
                self.assertEqual(book.pacts(), some().pacts() + [tuple(words_of(row))])
                self.assertEqual(book.deeds(), some().deeds() + ["pact " + row])

    def test_the_fields_of_shut_in(self):
        self.assertEqual(set(SHUT_IN), set(ALONE[ShutIn]))
        for make in (some, eighty):
            for row, (day, names) in SHUT_IN.items():
                refusal = self.refused(ShutIn, make().pact, *words_of(row))
                self.assertEqual((refusal.day, refusal.names), (day, names))
                self.assertIs(type(refusal.day), int)
                self.assertIs(type(refusal.names), list)


class Shut(Case):
    def test_its_five_refusals_alone_and_together(self):
        for make in (some, eighty):
            book = make()
            before = book.deeds()
            for error, row in due():
                if error is not ShutIn:
                    with self.subTest(make=make.__name__, row=row):
                        self.refused(error, book.shut, *words_of(row))
            self.assertEqual(book.deeds(), before)

    def test_whom(self):
        for make in (some, eighty):
            book = make()
            before = everything(book, [10, 15])
            for row, whom in SHUT_IN.items():
                with self.subTest(make=make.__name__, row=row):
                    told = book.shut(*words_of(row))
                    self.assertEqual(told, whom)
                    self.assertEqual([type(told), type(told[0]), type(told[1])], [tuple, int, list])
            self.assertEqual(everything(book, [10, 15]), before)

    def test_nobody(self):
        for make in (some, eighty):
            book = make()
            before = book.deeds()
            for row in FINE:
                with self.subTest(make=make.__name__, row=row):
                    self.assertIsNone(book.shut(*words_of(row)))
            self.assertEqual(book.deeds(), before)


class Change(Case):
    def test_each_refusal_of_the_pact_alone_and_together(self):
        for make in (some, eighty):
            book = make()
            before = book.deeds()
            for error, row in due():
                for house, day in (("oak", 0), ("box", 5000)):
                    with self.subTest(make=make.__name__, row=row, house=house):
                        self.refused(error, book.change, house, day, *words_of(row))
                        self.assertEqual(book.deeds(), before)
            self.assertEqual(everything(book, [0, 12, 16]), everything(make(), [0, 12, 16]))

    def test_full_alone(self):
        book = eighty()
        for row in FINE:
            self.refused(Full, book.change, "oak", 3, *words_of(row))
            self.assertEqual(len(some().change("oak", 3, *words_of(row))), 8)

    def test_the_fields_of_shut_in(self):
        for row, (day, names) in SHUT_IN.items():
            for asked in (0, 12, 5000):
                refusal = self.refused(ShutIn, some().change, "elm", asked, *words_of(row))
                self.assertEqual((refusal.day, refusal.names), (day, names))

    def test_an_unknown_house_goes_ahead_of_all(self):
        rows = [row for error, row in due()] + list(FINE)
        for make in (some, eighty):
            book = make()
            for row in rows:
                for house in ("beech", "Oak", "", "bay"):
                    for day in (-1, 3, 5001):
                        self.refused(UnknownHouse, book.change, house, day, *words_of(row))

    def test_a_day_out_of_range_stands_where_out_of_range_does(self):
        rows = due() + [(Full, row) for row in FINE]
        for make in (some, eighty):
            book = make()
            for error, row in rows:
                wanted = error if error in (UnknownHouse, ToItself, DaysTurned) else OutOfRange
                for day in (-1, 5001, 10 ** 200, -10 ** 200):
                    with self.subTest(make=make.__name__, row=row, day=day):
                        self.refused(wanted, book.change, "ash", day, *words_of(row))

    def test_the_days_at_the_ends_are_within(self):
        for row in FINE:
            for day in (0, 5000):
                self.assertEqual(len(some().change("ash", day, *words_of(row))), 8)


class AlikeForAll(Case):
    def test_the_three_are_refused_alike(self):
        for make in (some, eighty):
            book = make()
            for error, row in due():
                told = outcome(book.pact, *words_of(row))
                self.assertEqual(outcome(book.change, "yew", 7, *words_of(row)), told)
                asked = outcome(book.shut, *words_of(row))
                self.assertEqual(asked, told[1:] if error is ShutIn else told)


if __name__ == "__main__":
    unittest.main()
