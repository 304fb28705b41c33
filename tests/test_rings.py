import itertools
import unittest

from helper import NETS, THREE, Case, chain, chains, keeps, left_shut, moved, ring, turned
from roundcede.rings import kept, leads, shut_in


def union_of_shut(count, ways):
    """Tells all houses of all sets that are shut in, by a look at every set."""
    rests = keeps(count, ways)
    found = set()
    for many in range(1, count + 1):
        for inside in itertools.combinations(range(count), many):
            stay = all(taker in inside for giver, taker, part in ways if giver in inside)
            if stay and not any(rests[place] for place in inside):
                found |= set(inside)
    return sorted(found)


class Kept(Case):
    def test_by_hand(self):
        self.assertEqual(kept(1, []), [1000])
        self.assertEqual(kept(3, []), [1000, 1000, 1000])
        self.assertEqual(kept(2, [(0, 1, 1)]), [999, 1000])
        self.assertEqual(kept(2, [(1, 0, 999)]), [1000, 1])
        self.assertEqual(kept(2, [(0, 1, 1000)]), [0, 1000])
        self.assertEqual(kept(3, [(0, 1, 500), (0, 2, 500), (2, 0, 250)]), [0, 1000, 750])
        self.assertEqual(kept(3, [(0, 1, 100), (2, 1, 7), (0, 1, 100), (0, 1, 20)]), [780, 1000, 993])
        self.assertEqual(kept(2, [(0, 1, 1)] * 80), [920, 1000])

    def test_each_net(self):
        for name, (count, ways) in NETS.items():
            with self.subTest(name=name):
                told = kept(count, ways)
                self.whole_numbers(told, count)
                self.assertEqual(told, keeps(count, ways))
                for others in turned(ways):
                    self.assertEqual(kept(count, others), told)

    def test_each_net_of_three(self):
        for ways in THREE:
            self.assertEqual(kept(3, ways), keeps(3, ways))

    def test_all_stays_as_it_is(self):
        for name, (count, ways) in NETS.items():
            with self.subTest(name=name):
                self.leaves_all_as_it_is(kept, count, ways)


class Leads(Case):
    def test_by_hand(self):
        self.assertEqual(leads(1, [], 0), [0])
        self.assertEqual(leads(3, [], 1), [1])
        self.assertEqual(leads(2, [(0, 1, 1)], 0), [0, 1])
        self.assertEqual(leads(2, [(0, 1, 1)], 1), [1])
        self.assertEqual(leads(4, [(3, 0, 1), (0, 2, 1000)], 3), [0, 2, 3])
        self.assertEqual(leads(5, [(4, 2, 500), (2, 0, 999), (0, 4, 1000)], 2), [0, 2, 4])
        self.assertEqual(leads(5, [(4, 2, 500), (2, 0, 999), (0, 4, 1000), (1, 4, 1)], 1), [0, 1, 2, 4])
        self.assertEqual(leads(3, [(0, 1, 300), (0, 1, 300), (0, 2, 400)], 0), [0, 1, 2])

    def test_long_chains_in_whatever_order_they_are_told(self):
        for count in range(2, 16):
            for places in (list(range(count)), list(range(count))[::-1]):
                for ways in [chain(places, 1)] + turned(chain(places, 1)):
                    for place, start in enumerate(places):
                        self.assertEqual(leads(count, ways, start), sorted(places[place:]))

    def test_rings(self):
        for count in range(2, 16):
            for start in range(count):
                self.assertEqual(leads(count, ring([1000] * count), start), list(range(count)))
                self.assertEqual(leads(count, ring([1] * count)[::-1], start), list(range(count)))

    def test_each_net_and_each_start(self):
        for name, (count, ways) in NETS.items():
            table = chains(count, ways)
            for start in range(count):
                with self.subTest(name=name, start=start):
                    told = leads(count, ways, start)
                    self.assertIs(type(told), list)
                    self.whole_numbers(told, len(told))
                    self.assertEqual(told, [place for place in range(count) if table[start][place]])
                    for others in turned(ways):
                        self.assertEqual(leads(count, others, start), told)

    def test_each_net_of_three(self):
        for ways in THREE:
            table = chains(3, ways)
            for start in range(3):
                self.assertEqual(leads(3, ways, start), [place for place in range(3) if table[start][place]])

    def test_all_stays_as_it_is(self):
        for name, (count, ways) in NETS.items():
            for start in (0, count // 2, count - 1):
                with self.subTest(name=name, start=start):
                    self.leaves_all_as_it_is(leads, count, ways, start)


class ShutIn(Case):
    def test_nobody(self):
        self.assertEqual(shut_in(1, []), [])
        self.assertEqual(shut_in(15, []), [])
        self.assertEqual(shut_in(2, [(0, 1, 1000)]), [])
        self.assertEqual(shut_in(2, [(0, 1, 1000), (1, 0, 999)]), [])
        self.assertEqual(shut_in(3, [(0, 1, 1000), (1, 0, 999), (1, 2, 1)]), [])

    def test_a_ring_that_passes_all_on(self):
        for count in range(2, 16):
            whole = list(range(count))
            self.assertEqual(shut_in(count, ring([1000] * count)), whole)
            self.assertEqual(shut_in(count, ring([1000] * count)[::-1]), whole)
            self.assertEqual(shut_in(count + 2, moved(ring([1000] * count), 2)), [place + 2 for place in whole])
            doubled = ring([500] * count) + ring([499] * count) + ring([1] * count)
            self.assertEqual(shut_in(count, doubled), whole)

    def test_a_ring_of_which_one_keeps_a_thousandth(self):
        for count in range(2, 16):
            for keeper in range(count):
                parts = [999 if place == keeper else 1000 for place in range(count)]
                self.assertEqual(shut_in(count, ring(parts)), [])

    def test_a_ring_with_one_way_out(self):
        for count in range(2, 14):
            for giver in range(count):
                parts = [999 if place == giver else 1000 for place in range(count)]
                self.assertEqual(shut_in(count + 1, ring(parts) + [(giver, count, 1)]), [])
                ways = ring(parts) + [(giver, count, 1), (count, count + 1, 1000)]
                self.assertEqual(shut_in(count + 2, ways), [])
                self.assertEqual(shut_in(count + 2, ways + [(count + 1, 0, 999)]), [])
                self.assertEqual(shut_in(count + 2, ways + [(count + 1, 0, 1000)]), list(range(count + 2)))

    def test_two_rings_apart(self):
        for one in range(2, 8):
            for two in range(2, 8):
                ways = ring([1000] * one) + moved(ring([1000] * two), one + 1)
                inside = list(range(one)) + list(range(one + 1, one + 1 + two))
                self.assertEqual(shut_in(one + two + 1, ways), inside)
                self.assertEqual(shut_in(one + two + 1, ways[::-1]), inside)
                ways = ring([1000] * one) + moved(ring([999] + [1000] * (two - 1)), one + 1)
                self.assertEqual(shut_in(one + two + 1, ways), list(range(one)))

    def test_houses_outside_that_lead_into_a_ring(self):
        shut = ring([1000] * 3)
        self.assertEqual(shut_in(4, shut + [(3, 0, 1000)]), [0, 1, 2, 3])
        self.assertEqual(shut_in(4, shut + [(3, 0, 999)]), [0, 1, 2])
        self.assertEqual(shut_in(5, shut + [(3, 0, 1000), (4, 3, 1000)]), [0, 1, 2, 3, 4])
        self.assertEqual(shut_in(5, shut + [(4, 3, 1000), (3, 0, 1000)][::-1]), [0, 1, 2, 3, 4])
        self.assertEqual(shut_in(5, shut + [(3, 0, 999), (3, 4, 1)]), [0, 1, 2])
        self.assertEqual(shut_in(5, shut + [(3, 0, 999), (4, 3, 1000)]), [0, 1, 2])
        self.assertEqual(shut_in(5, shut + [(3, 0, 1), (3, 2, 999), (4, 3, 500), (4, 1, 500)]), [0, 1, 2, 3, 4])

    def test_each_net(self):
        for name, (count, ways) in NETS.items():
            with self.subTest(name=name):
                told = shut_in(count, ways)
                self.whole_numbers(told, len(told))
                self.assertEqual(told, left_shut(count, ways))
                for others in turned(ways):
                    self.assertEqual(shut_in(count, others), told)

    def test_just_those_that_lead_to_no_house_that_keeps_something(self):
        for name, (count, ways) in NETS.items():
            with self.subTest(name=name):
                table, rests = chains(count, ways), keeps(count, ways)
                wanted = []
                for place in range(count):
                    if not any(rests[other] for other in range(count) if table[place][other]):
                        wanted.append(place)
                self.assertEqual(shut_in(count, ways), wanted)

    def test_the_greatest_of_all_sets(self):
        for ways in THREE:
            self.assertEqual(shut_in(3, ways), union_of_shut(3, ways))
        for name, (count, ways) in NETS.items():
            if count <= 8:
                with self.subTest(name=name):
                    self.assertEqual(shut_in(count, ways), union_of_shut(count, ways))

    def test_all_stays_as_it_is(self):
        for name, (count, ways) in NETS.items():
            with self.subTest(name=name):
                self.leaves_all_as_it_is(shut_in, count, ways)


class Interface(Case):
    def test_names_and_order_of_the_arguments(self):
        self.takes(kept, ["count", "ways"])
        self.takes(leads, ["count", "ways", "start"])
        self.takes(shut_in, ["count", "ways"])


if __name__ == "__main__":
    unittest.main()
