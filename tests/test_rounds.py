import unittest
from fractions import Fraction

from helper import NETS, THREE, Case, chain, keeps, ring, turned
from roundcede.rounds import walk


def in_coins(count, ways, start, amount, many):
    """Tells the rounds in fractions of a coin, by the words of point 11."""
    way = [Fraction(amount if place == start else 0) for place in range(count)]
    held = [Fraction(0)] * count
    told = [(way, held)]
    rests = keeps(count, ways)
    for turn in range(many):
        held = [had + came * rest / 1000 for had, came, rest in zip(held, way, rests)]
        sent = [Fraction(0)] * count
        for giver, taker, part in ways:
            sent[taker] += way[giver] * part / 1000
        way = sent
        told.append((way, held))
    return told


def next_of(count, ways, one):
    """Tells the next round from the one before in whole numbers, a table of the parts between."""
    table = [[0] * count for place in range(count)]
    for giver, taker, part in ways:
        table[giver][taker] += part
    way, held = one
    sent = [sum(way[giver] * table[giver][taker] for giver in range(count)) for taker in range(count)]
    own = [1000 * held[place] + way[place] * (1000 - sum(table[place])) for place in range(count)]
    return (sent, own)


class Walk(Case):
    def kinds(self, told, count, many):
        self.assertIs(type(told), list)
        self.assertEqual(len(told), many + 1)
        for one in told:
            self.assertIs(type(one), tuple)
            self.assertEqual(len(one), 2)
            self.whole_numbers(one[0], count)
            self.whole_numbers(one[1], count)

    def sums(self, told, amount):
        """After each round all come to the loss, and what is on the way never grows."""
        before = amount
        for k, (way, held) in enumerate(told):
            self.assertEqual(sum(way) + sum(held), amount * 1000 ** k)
            self.assertTrue(all(one >= 0 for one in way + held))
            self.assertLessEqual(sum(way), before)
            before = 1000 * sum(way)

    def test_by_hand(self):
        ways = [(0, 1, 500), (1, 0, 500)]
        self.assertEqual(walk(2, ways, 0, 100, 0), [([100, 0], [0, 0])])
        self.assertEqual(walk(2, ways, 0, 100, 1), [([100, 0], [0, 0]), ([0, 50000], [50000, 0])])
        self.assertEqual(
            walk(2, ways, 0, 100, 2),
            [([100, 0], [0, 0]), ([0, 50000], [50000, 0]), ([25000000, 0], [50000000, 25000000])],
        )
        self.assertEqual(walk(2, ways, 1, 1, 1), [([0, 1], [0, 0]), ([500, 0], [0, 500])])
        self.assertEqual(walk(1, [], 0, 7, 2), [([7], [0]), ([0], [7000]), ([0], [7000000])])
        self.assertEqual(
            walk(3, [(0, 1, 200), (0, 2, 1), (0, 1, 300), (1, 0, 1000)], 0, 2, 2),
            [([2, 0, 0], [0, 0, 0]), ([0, 1000, 2], [998, 0, 0]), ([1000000, 0, 0], [998000, 0, 2000])],
        )

    def test_the_first_tuple(self):
        for count in range(1, 16):
            for start in range(count):
                for amount in (1, 10 ** 12):
                    told = walk(count, [], start, amount, 0)
                    way = [0] * count
                    way[start] = amount
                    self.assertEqual(told, [(way, [0] * count)])

    def test_each_net_and_each_start(self):
        for name, (count, ways) in NETS.items():
            for start in range(count):
                with self.subTest(name=name, start=start):
                    told = walk(count, ways, start, 10 ** 12 - start, 4)
                    self.kinds(told, count, 4)
                    self.sums(told, 10 ** 12 - start)
                    for before, behind in zip(told, told[1:]):
                        self.assertEqual(behind, next_of(count, ways, before))

    def test_each_net_of_three_in_fractions_of_a_coin(self):
        for ways in THREE:
            told = walk(3, ways, 1, 7, 3)
            for k, (way, held) in enumerate(in_coins(3, ways, 1, 7, 3)):
                self.assertEqual([Fraction(one, 1000 ** k) for one in told[k][0]], way)
                self.assertEqual([Fraction(one, 1000 ** k) for one in told[k][1]], held)

    def test_some_nets_in_fractions_of_a_coin(self):
        for name in ("rings within rings", "15, eighty ways", "feeders of a shut ring", "2, eighty, all but one"):
            count, ways = NETS[name]
            with self.subTest(name=name):
                told = walk(count, ways, count - 1, 10 ** 12, 8)
                for k, (way, held) in enumerate(in_coins(count, ways, count - 1, 10 ** 12, 8)):
                    self.assertEqual([Fraction(one, 1000 ** k) for one in told[k][0]], way)
                    self.assertEqual([Fraction(one, 1000 ** k) for one in told[k][1]], held)

    def test_three_hundred_rounds(self):
        for name in (
            "two, half to one another", "two, shut in", "rings within rings", "fifteen, a star", "15, eighty ways",
            "15, eighty, some pass all on", "15, eighty, all but one", "15, eighty, all shut in", "1, no way",
        ):
            count, ways = NETS[name]
            for amount in (1, 10 ** 12):
                with self.subTest(name=name, amount=amount):
                    told = walk(count, ways, count - 1, amount, 300)
                    self.kinds(told, count, 300)
                    self.sums(told, amount)
                    self.assertEqual(told[0], ([0] * (count - 1) + [amount], [0] * count))
                    for before, behind in zip(told, told[1:]):
                        self.assertEqual(behind, next_of(count, ways, before))

    def test_fewer_rounds_are_the_first_of_more(self):
        for name, (count, ways) in NETS.items():
            with self.subTest(name=name):
                told = walk(count, ways, 0, 99, 20)
                for many in (0, 1, 2, 7, 19):
                    self.assertEqual(walk(count, ways, 0, 99, many), told[:many + 1])

    def test_houses_that_are_shut_in_keep_all_on_the_way(self):
        for count in range(2, 16):
            told = walk(count, ring([1000] * count), 0, 3, 40)
            for k, (way, held) in enumerate(told):
                wanted = [0] * count
                wanted[k % count] = 3 * 1000 ** k
                self.assertEqual(way, wanted)
                self.assertEqual(held, [0] * count)

    def test_rounds_when_nothing_is_on_the_way_any_more(self):
        self.assertEqual(walk(2, [], 1, 5, 3)[1:], [([0, 0], [0, 5 * 1000 ** k]) for k in (1, 2, 3)])
        count = 15
        told = walk(count, chain(list(range(count)), 1000), 0, 4, 300)
        self.kinds(told, count, 300)
        for k in range(15, 301):
            self.assertEqual(told[k], ([0] * 15, [0] * 14 + [4 * 1000 ** k]))
        self.assertEqual(told[14], ([0] * 14 + [4 * 1000 ** 14], [0] * 15))

    def test_the_order_of_the_ways_is_nothing(self):
        for name, (count, ways) in NETS.items():
            with self.subTest(name=name):
                told = walk(count, ways, count - 1, 12, 5)
                for others in turned(ways):
                    self.assertEqual(walk(count, others, count - 1, 12, 5), told)

    def test_all_stays_as_it_is(self):
        for name, (count, ways) in NETS.items():
            for many in (0, 1, 6):
                with self.subTest(name=name, many=many):
                    self.leaves_all_as_it_is(walk, count, ways, count // 2, 10, many)

    def test_somewhat_beyond_the_bounds_nothing_is_refused(self):
        count, ways = NETS["rings within rings"]
        for amount, many in ((10 ** 12 + 1, 2), (10 ** 13, 2), (3, 301), (3, 305)):
            told = walk(count, ways, 0, amount, many)
            self.kinds(told, count, many)
            self.sums(told, amount)
            for before, behind in zip(told, told[1:]):
                self.assertEqual(behind, next_of(count, ways, before))


class Interface(Case):
    def test_names_and_order_of_the_arguments(self):
        self.takes(walk, ["count", "ways", "start", "amount", "many"])


if __name__ == "__main__":
    unittest.main()
