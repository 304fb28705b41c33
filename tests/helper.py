"""What the tests share: houses and ways, the same on every run, plain looks at them that the program has no part in,
a book kept on another way, and what is asked of every function alike."""

import copy
import functools
import inspect
import itertools
import re
import unittest
from fractions import Fraction
from math import gcd

from roundcede import errors
from roundcede.book import Book

# Neither in the order of the letters nor in its turn, so that the order of writing is an order of its own.
NAMES = "oak ash yew hornbeam q elm fir box bay fig ivy may nut pea rye".split()


def dice(seed):
    """Yields numbers that look scattered."""
    number = seed * 7919 + 12345
    while True:
        number = (number * 6364136223846793005 + 1442695040888963407) % 2 ** 64
        yield number >> 33


def pick(numbers, choices):
    return choices[next(numbers) % len(choices)]


def split(numbers, whole, many):
    """Splits a whole number into so many parts of 1 or more: most of them 1, or all scattered."""
    if next(numbers) % 4 == 0:
        return [1] * (many - 1) + [whole - many + 1]
    cuts = []
    while len(cuts) < many - 1:
        cut = 1 + next(numbers) % (whole - 1)
        if cut not in cuts:
            cuts.append(cut)
    cuts = [0] + sorted(cuts) + [whole]
    return [behind - before for before, behind in zip(cuts, cuts[1:])]


def scattered(count, many, seed, full):
    """Makes `many` ways; the givers at the places `full` pass all on, and the others don't."""
    numbers = dice(seed)
    givers = list(full)
    while len(givers) < many:
        givers.append(next(numbers) % count)
    parts = []
    for place in range(count):
        often = givers.count(place)
        whole = 1000 if place in full else max(often, pick(numbers, (1, 500, 999, 200 + next(numbers) % 799)))
        parts.append(split(numbers, whole, often) if often else [])
    ways = []
    for giver in sorted(givers, key=lambda place: next(numbers)):
        taker = pick(numbers, [place for place in range(count) if place != giver])
        ways.append((giver, taker, parts[giver].pop()))
    return ways


def ring(parts):
    """Makes a ring: each house passes its part on to the next one, the last to the first."""
    return [(place, (place + 1) % len(parts), part) for place, part in enumerate(parts)]


def chain(places, part):
    return [(giver, taker, part) for giver, taker in zip(places, places[1:])]


def moved(ways, by):
    return [(giver + by, taker + by, part) for giver, taker, part in ways]


def by_hand():
    star = [(0, taker, 71) for taker in range(1, 15)] + [(giver, 0, 1000) for giver in range(1, 15)]
    return {
        "two, half to one another": (2, [(0, 1, 500), (1, 0, 500)]),
        "two, one thousandth": (2, [(0, 1, 1)]),
        "two, all": (2, [(0, 1, 1000)]),
        "two, all but one thousandth": (2, [(1, 0, 999)]),
        "two, all one way, 999 the other": (2, [(0, 1, 1000), (1, 0, 999)]),
        "two, shut in": (2, [(0, 1, 1000), (1, 0, 1000)]),
        "two, the same way three times": (2, [(0, 1, 300), (0, 1, 200), (1, 0, 500), (0, 1, 200)]),
        "two, eighty ways, one passes all on": (2, [(0, 1, 20)] * 40 + [(1, 0, 25)] * 40),
        "two, eighty ways, shut in": (2, [(0, 1, 25), (1, 0, 25)] * 40),
        "two, eighty ways from one": (2, [(1, 0, 12)] * 80),
        "three, a way twice and back": (3, [(0, 1, 1), (0, 1, 499), (1, 2, 500), (2, 0, 999), (1, 2, 500)]),
        "three, two of them shut in": (3, [(0, 1, 1000), (1, 0, 1000), (2, 0, 1)]),
        "three, two lead out": (3, [(0, 1, 500), (1, 0, 1000), (0, 2, 500)]),
        "fifteen, a chain up": (15, chain(list(range(15)), 1000)),
        "fifteen, a chain up, told from its end": (15, chain(list(range(15)), 1000)[::-1]),
        "fifteen, a chain down": (15, chain(list(range(15))[::-1], 999)),
        "fifteen, a chain down, told from its end": (15, chain(list(range(15))[::-1], 999)[::-1]),
        "fifteen, a chain to and fro": (15, chain([7, 3, 11, 0, 14, 2, 9, 5, 1, 13, 8, 4, 12, 6, 10], 500)),
        "fifteen, a chain into a shut ring": (15, chain(list(range(15)), 1000) + [(14, 12, 1000)]),
        "fifteen, such a chain told from its end": (15, [(14, 12, 1000)] + chain(list(range(15)), 1000)[::-1]),
        "fifteen, a ring that is shut in": (15, ring([1000] * 15)),
        "fifteen, a ring, one keeps a thousandth": (15, ring([1000] * 9 + [999] + [1000] * 5)),
        "fifteen, a star": (15, star),
        "fifteen, one gives to each": (15, [(3, taker, 71) for taker in range(15) if taker != 3]),
        "two shut rings apart": (7, ring([1000] * 2) + moved(ring([1000] * 3), 3)),
        "two shut rings, one leads to the other": (6, ring([1000] * 2)[:1] + [(1, 0, 400), (1, 4, 600)]
                                                   + moved(ring([1000] * 3), 3)),
        "a shut ring and one that keeps": (5, ring([1000] * 3) + [(3, 4, 999), (4, 3, 1000)]),
        "a ring with a way out": (5, [(0, 1, 1000), (1, 2, 999), (1, 3, 1), (2, 0, 1000)]),
        "a ring with a way out to one shut in": (6, [(0, 1, 1000), (1, 2, 999), (1, 3, 1), (2, 0, 1000),
                                                     (3, 4, 1000), (4, 3, 1000)]),
        "a ring with a long way out": (8, ring([1000] * 3)[:2] + [(2, 0, 999), (2, 6, 1), (6, 4, 1000),
                                                                  (4, 3, 1000), (3, 7, 1000)]),
        "feeders of a shut ring": (8, ring([1000] * 3) + [(3, 0, 1000), (4, 3, 1000), (5, 4, 500), (5, 1, 500),
                                                         (6, 2, 999)]),
        "a feeder that passes on elsewhere too": (5, ring([1000] * 2) + [(2, 0, 500), (2, 3, 500), (3, 0, 1000),
                                                                        (4, 0, 1)]),
        "rings within rings": (7, [(0, 1, 1000), (1, 2, 600), (2, 0, 500), (2, 3, 500), (3, 4, 999), (4, 2, 300),
                                   (4, 5, 700), (5, 6, 1000), (6, 0, 1), (1, 0, 400), (6, 5, 998)]),
        "somewhat more than fifteen": (17, ring([1000] * 16 + [998]) + [(16, 3, 1)]),
        "somewhat more than fifteen, shut in": (17, ring([1000] * 16 + [999]) + [(16, 3, 1)]),
        "somewhat more than eighty ways": (4, [(0, 1, 40), (1, 2, 39), (2, 3, 38), (3, 0, 37)] * 22),
    }


def made():
    nets = {}
    for count in range(1, 16):
        nets[f"{count}, no way"] = (count, [])
        if count == 1:
            continue
        nets[f"{count}, a ring"] = (count, ring([1000 - 61 * place for place in range(count)]))
        nets[f"{count}, few ways"] = (count, scattered(count, count // 2 + 1, count, []))
        nets[f"{count}, some pass all on"] = (count, scattered(count, 2 * count, count + 20, list(range(0, count, 2))))
        nets[f"{count}, eighty ways"] = (count, scattered(count, 80, count + 40, []))
        nets[f"{count}, eighty, some pass all on"] = (count, scattered(count, 80, count + 60, list(range(1, count, 2))))
        nets[f"{count}, eighty, all but one"] = (count, scattered(count, 80, count + 80, list(range(count - 1))))
        nets[f"{count}, one way each but one"] = (count, scattered(count, count - 1, count + 100, range(1, count)))
        nets[f"{count}, few of all shut in"] = (count, scattered(count, count + 2, count + 120, list(range(count))))
        nets[f"{count}, eighty, all shut in"] = (count, scattered(count, 80, count + 140, list(range(count))))
    return nets


NETS = {**by_hand(), **made()}


def all_of_three():
    """Makes every net of three houses in which each has one of some choices of ways."""
    nets = []
    choices = []
    for giver in range(3):
        one, two = [place for place in range(3) if place != giver]
        rows = [[]]
        for part in (1, 500, 999, 1000):
            rows += [[(giver, one, part)], [(giver, two, part)]]
        for part, other in ((500, 500), (1, 999), (999, 1), (1, 1)):
            rows.append([(giver, two, other), (giver, one, part)])
        choices.append(rows)
    for rows in itertools.product(*choices):
        nets.append(sum(rows, []))
    return nets


THREE = all_of_three()


def keeps(count, ways):
    return [1000 - sum(part for giver, taker, part in ways if giver == place) for place in range(count)]


def chains(count, ways):
    """Tells for each two houses whether the first leads to the second, through one house more after the other."""
    table = [[one == two for two in range(count)] for one in range(count)]
    for giver, taker, part in ways:
        table[giver][taker] = True
    for through in range(count):
        for one in range(count):
            for two in range(count):
                table[one][two] = table[one][two] or table[one][through] and table[through][two]
    return table


def left_shut(count, ways):
    """Tells the greatest set that is shut in, by leaving out whoever keeps something or gives to one left out."""
    inside = {place for place, rest in enumerate(keeps(count, ways)) if rest == 0}
    before = None
    while before != inside:
        before = inside
        inside = {one for one in before if all(way[1] in before for way in ways if way[0] == one)}
    return sorted(inside)


OPEN = {name: net for name, net in NETS.items() if not left_shut(*net)}
OPEN_THREE = [ways for ways in THREE if not left_shut(3, ways)]


def coming(count, ways, start, told):
    """Tells by the words of point 9 what comes to each house, where to each giver comes what is told."""
    sums = [Fraction(place == start) for place in range(count)]
    for giver, taker, part in ways:
        sums[taker] += Fraction(part, 1000) * told[giver]
    return sums


def turned(ways):
    """Tells the same ways in three other orders."""
    return [ways[::-1], sorted(ways), sorted(ways, key=lambda way: (way[2] * 377 + way[0] * 17 + way[1]) % 101)]


def lists_in(value):
    """Tells all lists in an answer, the outer ones first."""
    found = [value] if isinstance(value, list) else []
    if isinstance(value, (list, tuple)):
        for one in value:
            found += lists_in(one)
    return found


def given(amount, parts):
    """Tells the coins by the words of point 12."""
    due = [amount * Fraction(*part) for part in parts]
    told = [one.numerator // one.denominator for one in due]
    order = sorted(range(len(parts)), key=lambda place: (told[place] - due[place], place))
    for place in order[:amount - sum(told)]:
        told[place] += 1
    return told


@functools.lru_cache(maxsize=None)
def solved(count, ways, start):
    """Tells the arrivals, by Python's own fractions."""
    rows = [[Fraction(one == two) for two in range(count)] + [Fraction(one == start)] for one in range(count)]
    for giver, taker, part in ways:
        rows[taker][giver] -= Fraction(part, 1000)
    for place in range(count):
        own = [number / rows[place][place] for number in rows[place]]
        for other, row in enumerate(rows):
            if row[place]:
                rows[other] = [one - row[place] * two for one, two in zip(row, own)]
        rows[place] = own
    return tuple(row[count] for row in rows)


def written(parts):
    return [(part.numerator, part.denominator) for part in parts]


class Plain:
    """A book kept on a way of its own, straight by the words of points 13 to 23, with a look at each day alone."""

    def __init__(self):
        self.told = []

    def standing(self, kind):
        return [deed[1:] for deed in self.told if deed[0] == kind]

    def houses(self):
        return [name for name, in self.standing("house")]

    def pacts(self):
        return self.standing("pact")

    def losses(self):
        return self.standing("loss")

    def deeds(self):
        return [" ".join(map(str, deed)) for deed in self.told]

    def need(self, *names):
        if not set(names) <= set(self.houses()):
            raise errors.UnknownHouse()

    def within(self, *bounded):
        if any(number not in range(least, most + 1) for number, least, most in bounded):
            raise errors.OutOfRange()

    def house(self, name):
        if not re.fullmatch("[a-z]{1,8}", name):
            raise errors.BadName()
        if name in self.houses():
            raise errors.KnownHouse()
        if len(self.houses()) == 15:
            raise errors.Full()
        self.told.append(("house", name))

    def first_four(self, giver, taker, part, first, last, day):
        self.need(giver, taker)
        if giver == taker:
            raise errors.ToItself()
        if first > last:
            raise errors.DaysTurned()
        self.within((part, 1, 1000), (first, 0, 5000), (last, 0, 5000), (day, 0, 5000))

    def by(self, pacts, day):
        place = self.houses().index
        return [(place(pact[0]), place(pact[1]), pact[2]) for pact in pacts if pact[3] <= day <= pact[4]]

    def looks(self, pacts):
        """Tells the ways of each day on which other pacts hold than on the day before."""
        days = {0} | {pact[3] for pact in pacts} | {pact[4] + 1 for pact in pacts}
        return [(day, self.by(pacts, day)) for day in sorted(days) if day <= 5000]

    def whom(self, pact):
        looks = self.looks(self.pacts() + [pact])
        count = len(self.houses())
        if any(min(keeps(count, ways)) < 0 for day, ways in looks):
            raise errors.TooMuch()
        for day, ways in looks:
            if left_shut(count, ways):
                return (day, [self.houses()[place] for place in left_shut(count, ways)])
        return None

    def last_two(self, pact):
        whom = self.whom(pact)
        if whom:
            raise errors.ShutIn(*whom)
        if len(self.pacts()) == 80:
            raise errors.Full()

    def pact(self, *pact):
        self.first_four(*pact, 0)
        self.last_two(pact)
        self.told.append(("pact",) + pact)

    def shut(self, *pact):
        self.first_four(*pact, 0)
        return self.whom(pact)

    def loss(self, house, day, amount):
        self.need(house)
        self.within((day, 0, 5000), (amount, 1, 10 ** 12))
        if len(self.losses()) == 200:
            raise errors.Full()
        self.told.append(("loss", house, day, amount))

    def take_back(self):
        if not self.told:
            raise errors.NothingDone()
        row = self.deeds()[-1]
        self.told = self.told[:-1]
        return row

    def ways(self, day):
        self.within((day, 0, 5000))
        return self.by(self.pacts(), day)

    def arriving(self, pacts, house, day):
        return solved(len(self.houses()), tuple(self.by(pacts, day)), self.houses().index(house))

    def bearing(self, pacts, house, day):
        rests = keeps(len(self.houses()), self.by(pacts, day))
        return [Fraction(rest, 1000) * one for rest, one in zip(rests, self.arriving(pacts, house, day))]

    def paper(self, house, day):
        self.need(house)
        self.within((day, 0, 5000))
        return written(self.arriving(self.pacts(), house, day))

    def shares(self, house, day):
        self.need(house)
        self.within((day, 0, 5000))
        return written(self.bearing(self.pacts(), house, day))

    def coins(self, house, day, amount):
        self.need(house)
        self.within((day, 0, 5000), (amount, 1, 10 ** 12))
        return given(amount, self.shares(house, day))

    def rounds(self, house, day, amount, many):
        self.need(house)
        self.within((day, 0, 5000), (amount, 1, 10 ** 12), (many, 0, 300))
        count, ways = len(self.houses()), self.by(self.pacts(), day)
        rests = keeps(count, ways)
        told = [([amount * (name == house) for name in self.houses()], [0] * count)]
        for turn in range(many):
            came, had = told[-1]
            sent = [sum(part * came[one] for one, two, part in ways if two == place) for place in range(count)]
            told.append((sent, [1000 * had[place] + rests[place] * came[place] for place in range(count)]))
        return told

    def borne(self, house, day):
        self.need(house)
        self.within((day, 0, 5000))
        place = self.houses().index(house)
        return sum(self.coins(*loss)[place] for loss in self.losses() if loss[1] <= day)

    def change(self, house, day, *pact):
        self.need(house)
        self.first_four(*pact, day)
        self.last_two(pact)
        now = self.bearing(self.pacts(), house, day)
        return written(one - two for one, two in zip(self.bearing(self.pacts() + [pact], house, day), now))


def words_of(row):
    return [int(word) if word.lstrip("-").isdigit() else word for word in row.split()]


def told_to(book, rows):
    """Tells a book deeds: a text is the name of a house, three words are a loss, five a pact."""
    for row in rows:
        words = words_of(row)
        {1: book.house, 3: book.loss, 5: book.pact}[len(words)](*words)
    return book


def book_of(count, *rows):
    return told_to(told_to(Book(), NAMES[:count]), rows)


def outcome(call, *handed):
    """Tells what is answered, or the class and the fields of what is raised."""
    try:
        return call(*handed)
    except errors.CedeError as refusal:
        return (refusal.__class__, getattr(refusal, "day", None), getattr(refusal, "names", None))


def everything(book, days):
    """Tells the answers to every question about these days."""
    told = [book.houses(), book.pacts(), book.losses(), book.deeds()]
    for day in days:
        told.append(book.ways(day))
        for name in book.houses():
            told += [book.paper(name, day), book.shares(name, day), book.coins(name, day, 1001)]
            told += [book.rounds(name, day, 7, 3), book.borne(name, day)]
    return told


class Case(unittest.TestCase):
    def refused(self, error, call, *handed):
        with self.assertRaises(errors.CedeError) as caught:
            call(*handed)
        self.assertIs(caught.exception.__class__, error, handed)
        return caught.exception

    def takes(self, function, names):
        asked = list(inspect.signature(function).parameters.values())
        self.assertEqual([one.name for one in asked], names)
        self.assertTrue(all(one.default is one.empty for one in asked))
        self.assertTrue(all(one.kind is one.POSITIONAL_OR_KEYWORD for one in asked))

    def whole_numbers(self, told, many):
        self.assertIs(type(told), list)
        self.assertEqual([type(one) for one in told], [int] * many)

    def fractions(self, told, many):
        self.assertIs(type(told), list)
        self.assertEqual([type(one) for one in told], [tuple] * many)
        for one in told:
            self.assertEqual([type(number) for number in one], [int, int])
            self.assertGreaterEqual(one[1], 1)
            self.assertEqual(gcd(one[0], one[1]), 1)

    def leaves_all_as_it_is(self, function, *handed):
        """Asks that nothing handed in is changed, and that each told list is new and no other answer's."""
        before = copy.deepcopy(handed)
        told = function(*handed)
        again = function(*handed)
        self.assertEqual(handed, before)
        wanted = copy.deepcopy(told)
        found = lists_in(told)
        others = lists_in(again) + lists_in(handed)
        self.assertEqual(len({id(one) for one in found}), len(found))
        self.assertFalse({id(one) for one in found} & {id(one) for one in others})
        for one in reversed(found):
            one[:1] = [-1, -1]
        self.assertNotEqual(told, wanted)
        self.assertEqual(again, wanted)
        self.assertEqual(function(*handed), wanted)
        self.assertEqual(handed, before)
