import copy
import inspect
import unittest

from roundcede import spans as module
from roundcede.spans import stretches


def day_by_day(spans):
    """Tells the stretches by a look at each day alone, on a way of its own."""
    rows = [[] for day in range(5001)]
    for place, (first, last) in enumerate(spans):
        for day in range(first, last + 1):
            rows[day].append(place)
    told = []
    for day, places in enumerate(rows):
        if told and told[-1][2] == places:
            told[-1] = (told[-1][0], day, places)
        else:
            told.append((day, day, places))
    return told


def scattered(many, seed):
    """Tells spans that lie as if by chance, the same ones each time."""
    spans = []
    for turn in range(many):
        seed = (seed * 1103515245 + 12345) % 2147483648
        one = seed // 65536 % 5001
        seed = (seed * 1103515245 + 12345) % 2147483648
        two = seed // 65536 % 5001
        spans.append((min(one, two), max(one, two)))
    return spans


CASES = {
    "none": [],
    "the whole": [(0, 5000)],
    "the whole twice": [(0, 5000), (0, 5000)],
    "equal": [(10, 20), (10, 20), (10, 20)],
    "equal, another between": [(10, 20), (15, 30), (10, 20)],
    "one day": [(7, 7)],
    "the first day": [(0, 0)],
    "the last day": [(5000, 5000)],
    "the first and the last day": [(0, 0), (5000, 5000)],
    "the days beside the ends": [(1, 1), (4999, 4999)],
    "from day 0": [(0, 99)],
    "to day 5000": [(100, 5000)],
    "both halves": [(0, 2499), (2500, 5000)],
    "both halves, turned": [(2500, 5000), (0, 2499)],
    "the day behind": [(10, 20), (21, 30)],
    "the day behind, turned": [(21, 30), (10, 20)],
    "one day between": [(10, 20), (22, 30)],
    "one day in common": [(10, 20), (20, 30)],
    "single days in a row": [(5, 5), (6, 6), (7, 7)],
    "within": [(10, 40), (20, 30)],
    "within, turned": [(20, 30), (10, 40)],
    "within, one first day": [(10, 40), (10, 30)],
    "within, one last day": [(10, 40), (20, 40)],
    "across": [(10, 30), (20, 40)],
    "across, turned": [(20, 40), (10, 30)],
    "three across": [(0, 300), (200, 5000), (250, 260)],
    "81 equal": [(1000, 2000)] * 81,
    "81 whole": [(0, 5000)] * 81,
    "81 within one another": [(place, 5000 - place) for place in range(81)],
    "81 single days": [(60 * place, 60 * place) for place in range(81)],
    "81 in a row": [(60 * place, 60 * place + 59) for place in range(81)],
    "81 in a row, turned": [(60 * place, 60 * place + 59) for place in reversed(range(81))],
    "81 scattered": scattered(81, 1),
    "81 scattered otherwise": scattered(81, 2),
    "12 scattered": scattered(12, 3),
    "somewhat more than 81": scattered(100, 4),
}


class Stretches(unittest.TestCase):
    def test_no_span(self):
        self.assertEqual(stretches([]), [(0, 5000, [])])

    def test_by_hand(self):
        self.assertEqual(stretches([(0, 5000)]), [(0, 5000, [0])])
        self.assertEqual(stretches([(0, 0)]), [(0, 0, [0]), (1, 5000, [])])
        self.assertEqual(stretches([(5000, 5000)]), [(0, 4999, []), (5000, 5000, [0])])
        self.assertEqual(
            stretches([(10, 20), (21, 30)]),
            [(0, 9, []), (10, 20, [0]), (21, 30, [1]), (31, 5000, [])],
        )
        self.assertEqual(
            stretches([(20, 40), (10, 30), (20, 40)]),
            [(0, 9, []), (10, 19, [1]), (20, 30, [0, 1, 2]), (31, 40, [0, 2]), (41, 5000, [])],
        )

    def test_as_a_look_at_each_day_tells(self):
        for name, spans in CASES.items():
            with self.subTest(name=name):
                self.assertEqual(stretches(spans), day_by_day(spans))

    def test_all_short_spans_on_a_few_days(self):
        days = (0, 1, 2, 3, 4999, 5000)
        short = [(first, last) for first in days for last in days if first <= last]
        for one in short:
            for two in short:
                told = stretches([one, two])
                for day in days:
                    wanted = [place for place, span in enumerate([one, two]) if day in range(span[0], span[1] + 1)]
                    self.assertEqual([row[2] for row in told if row[0] <= day <= row[1]], [wanted])

    def test_kinds(self):
        for name, spans in CASES.items():
            with self.subTest(name=name):
                told = stretches(spans)
                self.assertIs(type(told), list)
                for row in told:
                    self.assertIs(type(row), tuple)
                    self.assertEqual([type(one) for one in row], [int, int, list])
                    self.assertTrue(all(type(place) is int for place in row[2]))

    def test_no_gap_and_no_overlap(self):
        for name, spans in CASES.items():
            with self.subTest(name=name):
                told = stretches(spans)
                self.assertEqual(told[0][0], 0)
                self.assertEqual(told[-1][1], 5000)
                for row in told:
                    self.assertLessEqual(row[0], row[1])
                for before, behind in zip(told, told[1:]):
                    self.assertEqual(behind[0], before[1] + 1)

    def test_places_rise_and_differ_between_neighbours(self):
        for name, spans in CASES.items():
            with self.subTest(name=name):
                told = stretches(spans)
                for row in told:
                    self.assertEqual(row[2], sorted(set(row[2])))
                    self.assertTrue(all(0 <= place < len(spans) for place in row[2]))
                for before, behind in zip(told, told[1:]):
                    self.assertNotEqual(before[2], behind[2])

    def test_what_is_handed_in_stays(self):
        for name, spans in CASES.items():
            with self.subTest(name=name):
                before = copy.deepcopy(spans)
                stretches(spans)
                self.assertEqual(spans, before)

    def test_each_list_is_a_new_one(self):
        for name, spans in CASES.items():
            with self.subTest(name=name):
                before = copy.deepcopy(spans)
                told = stretches(spans)
                wanted = copy.deepcopy(told)
                for place, row in enumerate(told):
                    row[2].append(-1)
                    self.assertEqual(row[2], wanted[place][2] + [-1])
                    later = [one[2] for one in told[place + 1:]]
                    self.assertEqual(later, [one[2] for one in wanted[place + 1:]])
                told.clear()
                self.assertEqual(stretches(spans), wanted)
                self.assertEqual(spans, before)

    def test_a_later_change_of_the_spans_changes_no_answer(self):
        spans = [(10, 20)]
        told = stretches(spans)
        spans.append((15, 30))
        self.assertEqual(told, [(0, 9, []), (10, 20, [0]), (21, 5000, [])])
        self.assertEqual(stretches(spans)[1:3], [(10, 14, [0]), (15, 20, [0, 1])])

    def test_days_somewhat_beyond_are_not_refused(self):
        self.assertEqual(stretches([(4000, 5003)]), [(0, 3999, []), (4000, 5000, [0])])
        self.assertEqual(stretches([(-3, 10)]), [(0, 10, [0]), (11, 5000, [])])
        self.assertEqual(stretches([(5001, 5003)]), [(0, 5000, [])])


class Interface(unittest.TestCase):
    def test_names_and_order_of_the_arguments(self):
        asked = inspect.signature(module.stretches).parameters.values()
        self.assertEqual([one.name for one in asked], ["spans"])
        self.assertTrue(all(one.default is one.empty for one in asked))


if __name__ == "__main__":
    unittest.main()
