"""The book: the deeds that it was told, and what it answers by them."""

from roundcede.checks import check_amount, check_day, check_many, check_name, place_of
from roundcede.equations import arrivals, shares
from roundcede.errors import Full, KnownHouse, NothingDone, ShutIn
from roundcede.exact import minus
from roundcede.pacts import check_terms, ways_on, whom_shut
from roundcede.purse import coins
from roundcede.rounds import walk

MOST_HOUSES = 15
MOST_PACTS = 80
MOST_LOSSES = 200


def deed_row(deed):
    return " ".join([str(word) for word in deed])


class Book:
    def __init__(self):
        # All answers are drawn from the deeds alone, so that taking one back leaves nothing of it behind.
        self.told = []

    def houses(self):
        return [deed[1] for deed in self.told if deed[0] == "house"]

    def pacts(self):
        return [deed[1:] for deed in self.told if deed[0] == "pact"]

    def losses(self):
        return [deed[1:] for deed in self.told if deed[0] == "loss"]

    def deeds(self):
        return [deed_row(deed) for deed in self.told]

    def house(self, name):
        check_name(name)
        names = self.houses()
        if name in names:
            raise KnownHouse(f"a house {name} stands")
        if len(names) >= MOST_HOUSES:
            raise Full(f"{MOST_HOUSES} houses stand")
        self.told.append(("house", name))

    def pact(self, giver, taker, part, first, last):
        check_terms(self.houses(), giver, taker, part, first, last)
        self.check_new((giver, taker, part, first, last))
        self.told.append(("pact", giver, taker, part, first, last))

    def loss(self, house, day, amount):
        place_of(self.houses(), house)
        check_day(day)
        check_amount(amount)
        if len(self.losses()) >= MOST_LOSSES:
            raise Full(f"{MOST_LOSSES} losses stand")
        self.told.append(("loss", house, day, amount))

    def take_back(self):
        if len(self.told) == 0:
            raise NothingDone("no deed stands")
        return deed_row(self.told.pop())

    def check_new(self, new):
        whom = whom_shut(self.houses(), self.pacts(), new)
        if whom is not None:
            raise ShutIn(whom[0], whom[1])
        if len(self.pacts()) >= MOST_PACTS:
            raise Full(f"{MOST_PACTS} pacts stand")

    def shut(self, giver, taker, part, first, last):
        check_terms(self.houses(), giver, taker, part, first, last)
        return whom_shut(self.houses(), self.pacts(), (giver, taker, part, first, last))

    def ways(self, day):
        check_day(day)
        return ways_on(self.houses(), self.pacts(), day)

    def paper(self, house, day):
        names = self.houses()
        start = place_of(names, house)
        return arrivals(len(names), self.ways(day), start)

    def shares(self, house, day):
        names = self.houses()
        start = place_of(names, house)
        return shares(len(names), self.ways(day), start)

    def coins(self, house, day, amount):
        parts = self.shares(house, day)
        check_amount(amount)
        return coins(amount, parts)

    def rounds(self, house, day, amount, many):
        names = self.houses()
        start = place_of(names, house)
        standing = self.ways(day)
        check_amount(amount)
        check_many(many)
        return walk(len(names), standing, start, amount, many)

    def borne(self, house, day):
        place = place_of(self.houses(), house)
        check_day(day)
        # Many losses fall on the same house by the same ways: their shares are reckoned once.
        known = {}
        total = 0
        for hit, when, amount in self.losses():
            if when <= day:
                key = (hit, tuple(self.ways(when)))
                if key not in known:
                    known[key] = self.shares(hit, when)
                total += coins(amount, known[key])[place]
        return total

    def change(self, house, day, giver, taker, part, first, last):
        names = self.houses()
        start = place_of(names, house)
        check_terms(names, giver, taker, part, first, last)
        check_day(day)
        new = (giver, taker, part, first, last)
        self.check_new(new)
        after = shares(len(names), ways_on(names, self.pacts() + [new], day), start)
        return [minus(one, two) for one, two in zip(after, self.shares(house, day))]
