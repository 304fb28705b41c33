import unittest
from fractions import Fraction

from helper import NETS, OPEN, OPEN_THREE, Case, chain, chains, coming, keeps, ring, turned
from roundcede.equations import arrivals, shares
from roundcede.rounds import walk


def read(told):
    return [Fraction(*one) for one in told]


def merged(ways):
    """Tells one way in the place of several with the same giver and the same taker."""
    sums = {}
    for giver, taker, part in ways:
        sums[(giver, taker)] = sums.get((giver, taker), 0) + part
    return [ends + (part,) for ends, part in sums.items()]


def renamed(count, ways):
    """Tells the ways with the houses in the order of their places turned."""
    return [(count - 1 - giver, count - 1 - taker, part) for giver, taker, part in ways]


def along(parts, start, steps):
    product = Fraction(1)
    for step in range(steps):
        product *= Fraction(parts[(start + step) % len(parts)], 1000)
    return product


RINGS = {
    "of 500": lambda place: 500,
    "of 999": lambda place: 999,
    "of 1": lambda place: 1,
    "of 1000, but one": lambda place: 999 if place == 1 else 1000,
    "scattered": lambda place: 1000 - 61 * place,
    "1, 500, 999 and 1000": lambda place: (1, 500, 999, 1000)[place % 4],
}


class Nets(unittest.TestCase):
    def test_the_nets_are_of_all_the_kinds_asked_for(self):
        self.assertEqual({count for count, ways in OPEN.values()} - {17}, set(range(1, 16)))
        for count in range(2, 16):
            lengths = [len(ways) for many, ways in OPEN.values() if many == count]
            self.assertIn(0, lengths)
            self.assertIn(80, lengths)
        parts = [{part for giver, taker, part in ways} for count, ways in OPEN.values()]
        for part in (1, 500, 999, 1000):
            self.assertTrue(any(part in one for one in parts))
        great = [net for net in OPEN.values() if net[0] == 15 and len(net[1]) == 80]
        self.assertTrue(any(0 in keeps(count, ways) for count, ways in great))
        self.assertTrue(any(len(merged(ways)) < len(ways) for count, ways in OPEN.values()))
        self.assertLess(len(OPEN), len(NETS))


class Arrivals(Case):
    def ask(self, count, ways, start):
        told = arrivals(count, ways, start)
        self.fractions(told, count)
        row = read(told)
        self.assertEqual(coming(count, ways, start, row), row)
        self.assertTrue(all(one >= 0 for one in row))
        return told

    def test_by_hand(self):
        self.assertEqual(arrivals(1, [], 0), [(1, 1)])
        self.assertEqual(arrivals(3, [], 1), [(0, 1), (1, 1), (0, 1)])
        self.assertEqual(arrivals(2, [(0, 1, 1)], 0), [(1, 1), (1, 1000)])
        self.assertEqual(arrivals(2, [(0, 1, 1)], 1), [(0, 1), (1, 1)])
        self.assertEqual(arrivals(2, [(0, 1, 500), (1, 0, 500)], 0), [(4, 3), (2, 3)])
        self.assertEqual(arrivals(2, [(0, 1, 500), (1, 0, 500)], 1), [(2, 3), (4, 3)])
        self.assertEqual(arrivals(2, [(0, 1, 1000), (1, 0, 999)], 0), [(1000, 1), (1000, 1)])
        self.assertEqual(arrivals(2, [(0, 1, 1000), (1, 0, 999)], 1), [(999, 1), (1000, 1)])
        self.assertEqual(arrivals(3, [(0, 1, 200), (1, 2, 500), (0, 1, 300)], 0), [(1, 1), (1, 2), (1, 4)])
        self.assertEqual(arrivals(3, [(0, 1, 500), (0, 2, 500), (1, 2, 1000)], 0), [(1, 1), (1, 2), (1, 1)])

    def test_each_equation_of_each_net(self):
        for name, (count, ways) in OPEN.items():
            for start in range(count):
                with self.subTest(name=name, start=start):
                    self.ask(count, ways, start)

    def test_each_equation_of_each_net_of_three(self):
        for ways in OPEN_THREE:
            for start in range(3):
                self.ask(3, ways, start)

    def test_something_comes_just_to_whom_the_start_leads(self):
        for name, (count, ways) in OPEN.items():
            table = chains(count, ways)
            for start in range(count):
                with self.subTest(name=name, start=start):
                    told = arrivals(count, ways, start)
                    self.assertEqual([one[0] > 0 for one in told], table[start])
                    self.assertEqual([one == (0, 1) for one in told], [not there for there in table[start]])
                    self.assertGreaterEqual(Fraction(*told[start]), 1)

    def test_plain_rings(self):
        for name, part in RINGS.items():
            for count in range(2, 16):
                parts = [part(place) for place in range(count)]
                for start in range(count):
                    with self.subTest(name=name, count=count, start=start):
                        told = read(arrivals(count, ring(parts), start))
                        once = along(parts, start, count)
                        for steps in range(count):
                            wanted = along(parts, start, steps) / (1 - once)
                            self.assertEqual(told[(start + steps) % count], wanted)

    def test_chains(self):
        for count in range(2, 16):
            for part in (1, 500, 999, 1000):
                ways = chain(list(range(count)), part)
                wanted = [Fraction(part, 1000) ** steps for steps in range(count)]
                self.assertEqual(read(arrivals(count, ways, 0)), wanted)
                self.assertEqual(read(arrivals(count, ways[::-1], 0)), wanted)
                self.assertEqual(arrivals(count, ways, count - 1), [(0, 1)] * (count - 1) + [(1, 1)])

    def test_the_order_of_the_ways_is_nothing(self):
        for name, (count, ways) in OPEN.items():
            with self.subTest(name=name):
                told = arrivals(count, ways, 0)
                for others in turned(ways) + [merged(ways)]:
                    self.assertEqual(arrivals(count, others, 0), told)

    def test_the_order_of_the_houses_turns_the_answer_alone(self):
        for name, (count, ways) in OPEN.items():
            with self.subTest(name=name):
                told = arrivals(count, ways, 0)
                self.assertEqual(arrivals(count, renamed(count, ways), count - 1), told[::-1])

    def test_all_stays_as_it_is(self):
        for name, (count, ways) in OPEN.items():
            with self.subTest(name=name):
                self.leaves_all_as_it_is(arrivals, count, ways, count - 1)


class Shares(Case):
    def ask(self, count, ways, start, table):
        told = shares(count, ways, start)
        self.fractions(told, count)
        row, rests = read(told), keeps(count, ways)
        came = read(arrivals(count, ways, start))
        self.assertEqual(row, [Fraction(rest, 1000) * one for rest, one in zip(rests, came)])
        self.assertTrue(all(one >= 0 for one in row))
        self.assertEqual(sum(row), 1)
        self.assertEqual([one > 0 for one in row], [there and rest > 0 for there, rest in zip(table[start], rests)])

    def test_by_hand(self):
        self.assertEqual(shares(1, [], 0), [(1, 1)])
        self.assertEqual(shares(3, [], 2), [(0, 1), (0, 1), (1, 1)])
        self.assertEqual(shares(2, [(0, 1, 1)], 0), [(999, 1000), (1, 1000)])
        self.assertEqual(shares(2, [(0, 1, 1)], 1), [(0, 1), (1, 1)])
        self.assertEqual(shares(2, [(0, 1, 1000)], 0), [(0, 1), (1, 1)])
        self.assertEqual(shares(2, [(0, 1, 500), (1, 0, 500)], 0), [(2, 3), (1, 3)])
        self.assertEqual(shares(2, [(0, 1, 500), (1, 0, 500)], 1), [(1, 3), (2, 3)])
        self.assertEqual(shares(2, [(0, 1, 1000), (1, 0, 999)], 0), [(0, 1), (1, 1)])
        self.assertEqual(shares(3, [(0, 1, 200), (1, 2, 500), (0, 1, 300)], 0), [(1, 2), (1, 4), (1, 4)])

    def test_each_net_and_each_start(self):
        for name, (count, ways) in OPEN.items():
            table = chains(count, ways)
            for start in range(count):
                with self.subTest(name=name, start=start):
                    self.ask(count, ways, start, table)

    def test_each_net_of_three(self):
        for ways in OPEN_THREE:
            table = chains(3, ways)
            for start in range(3):
                self.ask(3, ways, start, table)

    def test_the_order_of_the_ways_is_nothing(self):
        for name, (count, ways) in OPEN.items():
            with self.subTest(name=name):
                told = shares(count, ways, count - 1)
                for others in turned(ways) + [merged(ways)]:
                    self.assertEqual(shares(count, others, count - 1), told)

    def test_all_stays_as_it_is(self):
        for name, (count, ways) in OPEN.items():
            with self.subTest(name=name):
                self.leaves_all_as_it_is(shares, count, ways, 0)


class SharesAndRounds(Case):
    def ask(self, count, ways, start, amount, many, asked):
        """After a round, what is held and the shares of what is on the way come to the shares of the whole."""
        rows = [read(shares(count, ways, place)) for place in range(count)]
        told = walk(count, ways, start, amount, many)
        for k in asked:
            way, held = told[k]
            for place in range(count):
                due = held[place] + sum(came * row[place] for came, row in zip(way, rows) if came)
                self.assertEqual(due, amount * 1000 ** k * rows[start][place])

    def test_each_net(self):
        for name, (count, ways) in OPEN.items():
            with self.subTest(name=name):
                self.ask(count, ways, len(ways) % count, 10 ** 12, 3, range(4))

    def test_each_start(self):
        for name in ("two, half to one another", "rings within rings", "15, eighty, some pass all on"):
            count, ways = OPEN[name]
            for start in range(count):
                with self.subTest(name=name, start=start):
                    self.ask(count, ways, start, 1, 12, (0, 1, 2, 5, 12))

    def test_many_rounds(self):
        for name in ("two, all one way, 999 the other", "rings within rings", "15, eighty ways"):
            count, ways = OPEN[name]
            with self.subTest(name=name):
                self.ask(count, ways, 0, 10 ** 12, 300, (100, 299, 300))


class Interface(Case):
    def test_names_and_order_of_the_arguments(self):
        self.takes(arrivals, ["count", "ways", "start"])
        self.takes(shares, ["count", "ways", "start"])


if __name__ == "__main__":
    unittest.main()
