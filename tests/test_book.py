"""Whole books: deeds and questions of every kind by turns, each answer beside that of a book kept on another way."""

import unittest

from helper import NAMES, Case, Plain, book_of, dice, everything, keeps, outcome, pick, told_to
from roundcede.book import Book

DAYS = (0, 1, 9, 10, 11, 20, 21, 300, 4999, 5000)
PARTS = (1, 250, 400, 500, 500, 500, 500, 600, 999, 1000, 1000, 1000)
AMOUNTS = (1, 2, 100, 101, 999999999989, 10 ** 12)


def left(plain, giver, day):
    """Tells what the giver keeps on that day, so that a pact can pass on all of it."""
    names = plain.houses()
    return keeps(len(names), plain.ways(day))[names.index(giver)] if giver in names else 0


def scattered_call(numbers, names, plain):
    """Makes a deed or a question, now and then with a word that is refused."""
    wrong = next(numbers) % 20

    def name():
        # The last one is mostly no house that stands.
        return pick(numbers, names if wrong > 15 else names[:-1])

    def day():
        return pick(numbers, DAYS)

    def pact():
        first, last = sorted((day(), day()))
        giver = name()
        taker = giver if wrong == 8 else pick(numbers, [one for one in names[:4] if one != giver])
        made = [giver, taker, left(plain, giver, first) or pick(numbers, PARTS), first, last]
        if next(numbers) % 2:
            made[2] = pick(numbers, PARTS)
        if wrong == 1:
            made[2 + next(numbers) % 3] = pick(numbers, (-1, 0, 1001, 5001))
        if wrong == 2:
            made[3:] = [last, first]
        return made

    kind = pick(numbers, ("house",) + ("pact",) * 7 + ("loss",) * 3 + (
        "take_back", "take_back", "ways", "paper", "shares", "coins", "rounds", "borne", "borne", "change", "change",
        "shut",
    ))
    number = pick(numbers, (-1, 0, 5001, 10 ** 12 + 1)) if wrong == 3 else pick(numbers, AMOUNTS)
    return (kind, {
        "house": lambda: [pick(numbers, NAMES + ["", "Oak", "o k", "ninebirds"])],
        "pact": pact,
        "loss": lambda: [name(), day(), number],
        "take_back": lambda: [],
        "ways": lambda: [day() + (wrong == 4)],
        "paper": lambda: [name(), day() - (wrong == 4)],
        "shares": lambda: [name(), day() - (wrong == 4)],
        "coins": lambda: [name(), day(), number],
        "rounds": lambda: [name(), day(), number, pick(numbers, (-1, 0, 1, 2, 9, 301) if wrong == 5 else (0, 1, 2, 9))],
        "borne": lambda: [name(), day() + (wrong == 6)],
        "change": lambda: [name(), day() + (wrong == 7)] + pact(),
        "shut": pact,
    }[kind]())


class ByTurns(Case):
    def by_turns(self, count, many, seed):
        numbers = dice(seed)
        book, plain = book_of(count), told_to(Plain(), NAMES[:count])
        seen = {}
        for turn in range(many):
            kind, handed = scattered_call(numbers, NAMES[:count + 1], plain)
            before = book.deeds()
            told = outcome(getattr(book, kind), *handed)
            self.assertEqual(told, outcome(getattr(plain, kind), *handed), (kind, handed, before))
            if kind not in ("house", "pact", "loss", "take_back"):
                self.assertEqual(book.deeds(), before)
            self.assertEqual(book.deeds(), plain.deeds())
            refusal = told[0].__name__ if isinstance(told, tuple) and isinstance(told[0], type) else "answered"
            seen[kind, refusal] = seen.get((kind, refusal), 0) + 1
        self.assertEqual(everything(book, DAYS[::3]), everything(plain, DAYS[::3]))
        return seen

    def test_books_of_each_size(self):
        seen = set()
        for count in (1, 2, 2, 3, 3, 4, 5, 6, 8, 11, 15):
            with self.subTest(count=count):
                seen |= set(self.by_turns(count, 250, 50 * count + len(seen)))
        for kind in ("house", "pact", "loss", "ways", "paper", "shares", "coins", "rounds", "borne", "change", "shut"):
            self.assertIn((kind, "answered"), seen)
        for kind in ("pact", "change"):
            for refusal in ("UnknownHouse", "ToItself", "DaysTurned", "OutOfRange", "TooMuch", "ShutIn"):
                self.assertIn((kind, refusal), seen)


class Interface(Case):
    def test_names_and_order_of_the_arguments(self):
        pact = ["giver", "taker", "part", "first", "last"]
        for name, asked in {
            "house": ["name"], "pact": pact, "loss": ["house", "day", "amount"], "take_back": [], "houses": [],
            "pacts": [], "losses": [], "deeds": [], "ways": ["day"], "paper": ["house", "day"],
            "shares": ["house", "day"], "change": ["house", "day"] + pact, "coins": ["house", "day", "amount"],
            "rounds": ["house", "day", "amount", "many"], "borne": ["house", "day"], "shut": pact,
        }.items():
            self.takes(getattr(Book(), name), asked)
        self.takes(Book, [])


if __name__ == "__main__":
    unittest.main()
