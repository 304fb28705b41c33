"""Points 25, 26 and 27: the desk's answers."""

import unittest

from helper import NAMES, Case, Plain, dice, outcome, pick, words_of
from roundcede.desk import Desk, answers
from roundcede.errors import CedeError

RING = ["house oak", "house ash", "pact oak ash 500 10 20", "pact ash oak 500 10 20"]
WORDS = {
    "BadName": "bad name", "KnownHouse": "known house", "UnknownHouse": "unknown house", "ToItself": "to itself",
    "DaysTurned": "days turned", "OutOfRange": "out of range", "TooMuch": "too much", "ShutIn": "shut in",
    "Full": "full", "NothingDone": "nothing done", "Unclear": "unclear",
}


def desk_after(rows):
    desk = Desk()
    for row in rows:
        assert desk.answer(row).startswith("done "), row
    return desk


def told_text(kind, told, names):
    """Writes down by the words of points 25 to 27 what a book tells."""
    if isinstance(told, tuple) and isinstance(told[0], type) and issubclass(told[0], CedeError):
        text = "refused: " + WORDS[told[0].__name__]
        return text if told[1] is None else " ".join([text, str(told[1])] + told[2])
    if kind in ("paper", "shares", "change"):
        return ", ".join(f"{name} {top}/{bottom}" for name, (top, bottom) in zip(names, told))
    if kind == "coins":
        return ", ".join(f"{name} {one}" for name, one in zip(names, told))
    if kind == "rounds":
        return ", ".join(f"{name} {way} {held}" for name, way, held in zip(names, *told[-1]))
    if kind == "shut":
        return "none" if told is None else " ".join([str(told[0])] + told[1])
    return str(told)


def by_plain(plain, row):
    words = words_of(row)
    kind = words[0]
    if kind == "back":
        told = outcome(plain.take_back)
        return told_text(kind, told, []) if isinstance(told, tuple) else f"back {told}"
    if kind == "deeds":
        return "; ".join(plain.deeds()) or "none"
    told = outcome(getattr(plain, kind), *words[1:])
    return f"done {len(plain.deeds())}" if told is None and kind != "shut" else told_text(kind, told, plain.houses())


class Deeds(Case):
    def test_done_and_how_many_stand(self):
        self.assertEqual(answers(RING + ["loss oak 15 100", "house yew"]), [f"done {one}" for one in range(1, 7)])

    def test_done_after_a_taking_back(self):
        self.assertEqual(
            answers(["house oak", "house ash", "back", "house yew", "back", "back", "house elm", "loss elm 3 4"]),
            ["done 1", "done 2", "back house ash", "done 2", "back house yew", "back house oak", "done 1", "done 2"],
        )

    def test_what_is_refused_is_not_counted(self):
        self.assertEqual(
            answers(["house oak", "house oak", "house Oak", "nonsense", "paper oak 3", "house ash"]),
            ["done 1", "refused: known house", "refused: bad name", "refused: unclear", "oak 1/1", "done 2"],
        )

    def test_back(self):
        desk = desk_after(RING + ["loss oak 15 100"])
        for row in (["loss oak 15 100"] + RING[::-1]):
            self.assertEqual(desk.answer("back"), "back " + row)
        for turn in range(2):
            self.assertEqual(desk.answer("back"), "refused: nothing done")

    def test_after_back_all_is_as_before(self):
        desk = desk_after(RING)
        before = desk.answer("shares oak 15")
        for row in ("house yew", "pact oak ash 499 0 5000", "loss oak 15 3"):
            self.assertEqual(desk.answer(row), "done 5")
            self.assertEqual(desk.answer("back"), "back " + row)
            self.assertEqual(desk.answer("shares oak 15"), before)
            self.assertEqual(desk.answer("borne oak 5000"), "0")
            self.assertEqual(desk.answer("deeds"), "; ".join(RING))

    def test_deeds(self):
        desk = Desk()
        self.assertEqual(desk.answer("deeds"), "none")
        rows = RING + ["loss oak 15 100", "loss oak 0 1000000000000"]
        for many, row in enumerate(rows):
            desk.answer(row)
            self.assertEqual(desk.answer("deeds"), "; ".join(rows[:many + 1]))
        self.assertEqual(answers(["house oak", "deeds"])[1], "house oak")
        self.assertEqual(answers(["house oak", "back", "deeds"])[2], "none")
        self.assertEqual(answers(["house q", "house oak", "deeds"])[2], "house q; house oak")

    def test_asking_for_deeds_changes_nothing(self):
        self.assertEqual(answers(["house oak", "deeds", "deeds", "house ash"])[3], "done 2")


class Questions(Case):
    def test_by_hand(self):
        desk = desk_after(RING + ["loss oak 15 100", "loss ash 20 3"])
        for row, told in (
            ("paper oak 15", "oak 4/3, ash 2/3"), ("paper ash 20", "oak 2/3, ash 4/3"),
            ("paper oak 9", "oak 1/1, ash 0/1"), ("shares oak 10", "oak 2/3, ash 1/3"),
            ("shares ash 21", "oak 0/1, ash 1/1"),
            ("coins oak 15 100", "oak 67, ash 33"), ("coins ash 0 1000000000000", "oak 0, ash 1000000000000"),
            ("rounds oak 15 100 0", "oak 100 0, ash 0 0"), ("rounds oak 15 100 1", "oak 0 50000, ash 50000 0"),
            ("rounds oak 15 100 2", "oak 25000000 50000000, ash 0 25000000"),
            ("rounds ash 9 1 1", "oak 0 0, ash 0 1000"),
            ("borne oak 14", "0"), ("borne oak 15", "67"), ("borne oak 20", "68"), ("borne ash 5000", "35"),
            ("change oak 15 ash oak 500 15 15", "oak 1/3, ash -1/3"),
            ("change oak 16 ash oak 500 15 15", "oak 0/1, ash 0/1"),
            ("change oak 15 oak ash 500 15 15", "oak -2/3, ash 2/3"),
            ("shut oak ash 500 0 5000", "none"), ("shut oak ash 1000 0 9", "none"),
        ):
            with self.subTest(row=row):
                answer = desk.answer(row)
                self.assertEqual(answer, told)
                self.assertIs(type(answer), str)

    def test_shut(self):
        desk = desk_after(RING + ["house yew", "pact yew oak 1000 12 13", "pact oak ash 500 10 20"])
        self.assertEqual(desk.answer("shut ash oak 500 0 11"), "10 oak ash")
        self.assertEqual(desk.answer("shut ash oak 500 12 12"), "12 oak ash yew")
        self.assertEqual(desk.answer("shut ash oak 499 0 5000"), "none")
        self.assertEqual(desk.answer("deeds").count(";"), 6)

    def test_shut_on_day_0(self):
        desk = desk_after(["house oak", "house ash", "pact oak ash 1000 0 0"])
        self.assertEqual(desk.answer("shut ash oak 1000 0 5000"), "0 oak ash")
        self.assertEqual(desk.answer("pact ash oak 1000 0 5000"), "refused: shut in 0 oak ash")

    def test_one_house_alone(self):
        desk = desk_after(["house q"])
        for row, told in (("paper q 0", "q 1/1"), ("shares q 0", "q 1/1"), ("coins q 0 5", "q 5"),
                          ("rounds q 0 5 2", "q 0 5000000"), ("borne q 0", "0")):
            self.assertEqual(desk.answer(row), told)

    def test_the_names_come_in_the_order_of_writing(self):
        desk = desk_after(["house yew", "house ash", "house oak", "pact oak yew 100 0 9", "pact oak ash 200 0 9"])
        self.assertEqual(desk.answer("shares oak 3"), "yew 1/10, ash 1/5, oak 7/10")
        self.assertEqual(desk.answer("coins oak 3 10"), "yew 1, ash 2, oak 7")
        self.assertEqual(desk.answer("rounds oak 3 1 1"), "yew 100 0, ash 200 0, oak 0 700")

    def test_the_greatest_answers(self):
        desk = desk_after(["house oak", "house ash", "pact oak ash 1000 0 5000", "pact ash oak 999 0 5000"])
        told = desk.answer("rounds oak 3 1000000000000 300")
        words = told.replace(",", "").split(" ")
        self.assertEqual([words[0], words[3]], ["oak", "ash"])
        self.assertEqual(sum(int(words[place]) for place in (1, 2, 4, 5)), 10 ** 12 * 1000 ** 300)
        way = 10 ** 12 * (1000 * 999) ** 150
        self.assertEqual(told, f"oak {way} 0, ash 0 {10 ** 12 * 1000 ** 300 - way}")

    def test_no_question_changes_anything(self):
        desk = desk_after(RING + ["loss oak 15 100"])
        rows = ["deeds", "paper oak 15", "shares oak 15", "coins oak 15 9", "rounds oak 15 9 3", "borne oak 15",
                "change oak 15 oak ash 1 0 5000", "shut oak ash 1 0 5000"]
        before = [desk.answer(row) for row in rows]
        for turn in range(2):
            self.assertEqual([desk.answer(row) for row in rows], before)
        self.assertEqual(desk.answer("house yew"), "done 6")


class Refusals(Case):
    def refuses(self, rows, row, words):
        desk = desk_after(rows)
        self.assertEqual(desk.answer(row), "refused: " + words)
        self.assertEqual(desk.answer("deeds"), "; ".join(rows) or "none")
        self.assertEqual(desk.answer("back"), "back " + rows[-1] if rows else "refused: nothing done")

    def test_each_word(self):
        filled = RING + ["pact oak ash 500 10 20"]
        for rows, row, words in (
            ([], "house Oak", "bad name"), (RING, "house oak1", "bad name"), (RING, "house ninebirds", "bad name"),
            (RING, "house oak", "known house"),
            ([], "paper oak 3", "unknown house"), (RING, "shares yew 3", "unknown house"),
            (RING, "coins Oak 3 5", "unknown house"), (RING, "rounds yew 3 5 1", "unknown house"),
            (RING, "borne yew 3", "unknown house"), (RING, "loss yew 3 5", "unknown house"),
            (RING, "pact oak yew 5 0 9", "unknown house"), (RING, "change yew 3 oak ash 5 0 9", "unknown house"),
            (RING, "change oak 3 yew ash 5 0 9", "unknown house"), (RING, "shut yew oak 5 0 9", "unknown house"),
            (RING, "pact oak oak 5 0 9", "to itself"), (RING, "change oak 3 ash ash 5 0 9", "to itself"),
            (RING, "shut oak oak 5 0 9", "to itself"),
            (RING, "pact oak ash 5 9 0", "days turned"), (RING, "change oak 3 oak ash 5 9 0", "days turned"),
            (RING, "shut oak ash 5 9 8", "days turned"),
            (RING, "pact oak ash 0 0 9", "out of range"), (RING, "pact oak ash 1001 0 9", "out of range"),
            (RING, "pact oak ash 5 0 5001", "out of range"), (RING, "loss oak 5001 5", "out of range"),
            (RING, "loss oak 3 0", "out of range"), (RING, "loss oak 3 1000000000001", "out of range"),
            (RING, "paper oak 5001", "out of range"), (RING, "shares oak 9999999999999", "out of range"),
            (RING, "coins oak 3 0", "out of range"), (RING, "rounds oak 3 5 301", "out of range"),
            (RING, "borne oak 5001", "out of range"), (RING, "change oak 5001 oak ash 5 0 9", "out of range"),
            (RING, "shut oak ash 0 0 9", "out of range"),
            (RING, "pact oak ash 501 20 30", "too much"), (RING, "change oak 3 oak ash 501 10 10", "too much"),
            (RING, "shut oak ash 501 0 5000", "too much"),
            (filled, "pact ash oak 500 15 30", "shut in 15 oak ash"),
            (filled, "pact ash oak 500 0 5000", "shut in 10 oak ash"),
            (filled, "change ash 3 ash oak 500 20 20", "shut in 20 oak ash"),
            ([], "back", "nothing done"), ([], "", "unclear"), (RING, "", "unclear"), (RING, " ", "unclear"),
            (RING, "House yew", "unclear"), (RING, "house", "unclear"), (RING, "house new ", "unclear"),
            (RING, " back", "unclear"), (RING, "back 1", "unclear"), (RING, "paper oak 03", "unclear"),
            (RING, "paper oak -1", "unclear"), (RING, "loss oak 3 10000000000000", "unclear"),
            (RING, "ways 3", "unclear"),
            (RING, "pact oak ash 5  0 9", "unclear"), (RING, "take_back", "unclear"), (RING, "houses", "unclear"),
        ):
            with self.subTest(row=row):
                self.refuses(rows, row, words)

    def test_full(self):
        houses = [f"house {name}" for name in NAMES]
        self.refuses(houses, "house new", "full")
        pacts = RING[:2] + ["pact oak ash 5 0 9"] * 80
        self.refuses(pacts, "pact ash oak 5 0 9", "full")
        self.refuses(pacts, "change oak 3 ash oak 5 0 9", "full")
        self.refuses(RING + ["loss oak 3 5"] * 200, "loss oak 3 5", "full")
        self.assertEqual(desk_after(pacts).answer("shut ash oak 5 0 9"), "none")

    def test_the_names_behind_shut_in(self):
        rows = ["house yew", "house ash", "house elm", "house oak", "pact oak ash 1000 3 9", "pact ash yew 1000 0 9",
                "pact elm ash 1000 5 9"]
        self.refuses(rows, "pact yew oak 1000 0 9", "shut in 3 yew ash oak")
        self.refuses(rows, "pact yew oak 1000 5 9", "shut in 5 yew ash elm oak")
        self.refuses(rows, "change elm 0 yew ash 1000 0 0", "shut in 0 yew ash")

    def test_unclear_goes_ahead_of_what_the_book_refuses(self):
        rows = ["house Oak x", "paper beech 007", "pact a a 0 9 08", "back back"]
        self.assertEqual(answers(rows), ["refused: unclear"] * 4)


class Answers(Case):
    def test_several_rows_each_time_with_a_new_desk(self):
        rows = RING + ["shares oak 15", "house oak", "deeds", "back"]
        wanted = ["done 1", "done 2", "done 3", "done 4", "oak 2/3, ash 1/3", "refused: known house",
                  "; ".join(RING), "back " + RING[-1]]
        for turn in range(3):
            told = answers(rows)
            self.assertEqual(told, wanted)
            self.assertIs(type(told), list)
            self.assertEqual([type(one) for one in told], [str] * 8)
        self.assertEqual(rows, RING + ["shares oak 15", "house oak", "deeds", "back"])
        self.assertEqual(answers(["deeds"]), ["none"])

    def test_of_no_row(self):
        self.assertEqual(answers([]), [])

    def test_as_a_desk_answers(self):
        rows = RING + ["loss oak 15 9", "borne ash 15", "", "shut oak ash 500 0 99"]
        desk = Desk()
        self.assertEqual(answers(rows), [desk.answer(row) for row in rows])

    def test_the_list_is_a_new_one(self):
        told = answers(["house oak", "deeds"])
        told[0] = "x"
        self.assertEqual(answers(["house oak", "deeds"]), ["done 1", "house oak"])

    def test_desks_share_nothing(self):
        one, two = Desk(), Desk()
        self.assertEqual([one.answer("house oak"), two.answer("house ash"), one.answer("house yew")],
                         ["done 1", "done 1", "done 2"])
        self.assertEqual([one.answer("deeds"), two.answer("deeds")], ["house oak; house yew", "house ash"])
        self.assertEqual([two.answer("back"), two.answer("back")], ["back house ash", "refused: nothing done"])
        self.assertEqual(one.answer("shares yew 3"), "oak 0/1, yew 1/1")
        self.assertEqual(Desk().answer("deeds"), "none")


def scattered_row(numbers):
    name = pick(numbers, NAMES[:4] + ["beech"] * (next(numbers) % 5 == 0))
    giver, taker = pick(numbers, NAMES[:4]), pick(numbers, NAMES[:4])
    first, last = pick(numbers, (0, 1, 5, 9)), pick(numbers, (0, 5, 9, 10, 5000))
    pact = f"{giver} {taker} {pick(numbers, (1, 300, 500, 500, 1000, 1000, 1001))} {first} {last}"
    day, amount = pick(numbers, (0, 1, 4, 5, 9, 10, 5000, 5001)), pick(numbers, (0, 1, 100, 997, 10 ** 12))
    return pick(numbers, (
        f"house {pick(numbers, NAMES[:5] + ['Oak'])}", f"pact {pact}", f"pact {pact}", f"pact {pact}", f"pact {pact}",
        f"loss {name} {day} {amount}", f"loss {name} {day} {amount}", "back", "deeds", f"paper {name} {day}",
        f"shares {name} {day}", f"coins {name} {day} {amount}",
        f"rounds {name} {day} {amount} {pick(numbers, (0, 1, 5))}", f"borne {name} {day}",
        f"change {name} {day} {pact}", f"shut {pact}", f"shut {pact}",
    ))


class ByTurns(Case):
    def test_scattered_rows(self):
        seen = set()
        for seed in range(8):
            numbers = dice(seed + 40)
            rows = [f"house {name}" for name in NAMES[:4]] + [scattered_row(numbers) for turn in range(200)]
            plain = Plain()
            wanted = [by_plain(plain, row) for row in rows]
            self.assertEqual(answers(rows), wanted)
            seen |= {(row.split()[0], told.startswith("refused: ")) for row, told in zip(rows, wanted)}
            seen |= {told.rstrip("0123456789") for told in wanted if "shut in" in told}
        for word in ("pact", "loss", "paper", "shares", "coins", "rounds", "borne", "change", "shut"):
            self.assertIn((word, True), seen)
            self.assertIn((word, False), seen)
        self.assertTrue(any("shut in" in one for one in seen if isinstance(one, str)))


class Interface(Case):
    def test_names_and_order_of_the_arguments(self):
        self.takes(Desk, [])
        self.takes(Desk().answer, ["row"])
        self.takes(answers, ["rows"])


if __name__ == "__main__":
    unittest.main()
