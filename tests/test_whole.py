import unittest

from metergap.bills import billed, owed
from metergap.plays import play
from metergap.points import points
from tests.helper import Dice, check_number, told_by
from tests.naive import naive_play

MOSTS = (0, 1, 3, 5, 20, 60)


def made_up_deed(dice, day):
    """A deed of about that day; some of them are refused."""
    near = max(0, day + dice.below(7) - 2)
    kind = dice.one_of(("read", "read", "read", "strike", "change", "tariff", "bill", "use",
                        "owed", "start"))
    if kind == "start":
        return (kind, near, 2 + dice.below(20), dice.below(20))
    if kind == "read":
        return (kind, near, dice.below(21))
    if kind == "change":
        return (kind, near, dice.below(20), 5 + dice.below(20), dice.below(15))
    if kind == "tariff":
        return (kind, near // 2) + tuple(dice.below(6) for _ in range(4))
    if kind == "strike":
        return (kind, dice.below(day + 1))
    return (kind, near)


def made_up_play(dice):
    day = dice.below(4)
    deeds = [] if dice.below(4) == 0 else [("start", day, 15 + dice.below(6), dice.below(15))]
    for _ in range(dice.below(25)):
        day += dice.below(3)
        deeds.append(made_up_deed(dice, day))
    return deeds


class MadeUpPlaysTest(unittest.TestCase):
    def test_answers_and_states_are_as_the_document_says(self):
        dice = Dice(7)
        met = {}
        for _ in range(1500):
            deeds, most = made_up_play(dice), dice.one_of(MOSTS)
            answers, state = told_by(self, play, most, deeds)
            self.assertEqual((answers, state), naive_play(most, deeds))
            for deed, answer in zip(deeds, answers):
                word = "number" if type(answer) is int else answer
                met[deed[0], word] = met.get((deed[0], word), 0) + 1
        self.check_all_met(met)

    def check_all_met(self, met):
        """These plays try each deed with each of its answers, and often."""
        words = {
            "start": ("done", "there already", "no value"),
            "read": ("counts", "doubted", "no meter", "not later", "no value"),
            "change": ("done", "no meter", "not later", "no value"),
            "strike": ("done", "no reading"),
            "tariff": ("done", "there already"),
            "bill": ("number", "no meter", "not later"),
            "use": ("number",),
            "owed": ("number", "no meter"),
        }
        self.assertEqual(set(met), {(kind, word) for kind in words for word in words[kind]})
        self.assertGreater(min(met.values()), 20)

    def test_behind_each_bill_all_together_are_what_is_owed(self):
        dice = Dice(8)
        for _ in range(300):
            deeds, most = made_up_play(dice), dice.one_of(MOSTS)
            for many in range(len(deeds)):
                if deeds[many][0] == "bill":
                    self.check_bill(most, deeds[:many + 1])

    def check_bill(self, most, deeds):
        answers, (history, tariffs, bills) = play(most, deeds)
        if type(answers[-1]) is str:
            return
        check_number(self, answers[-1])
        day = deeds[-1][1]
        self.assertEqual(bills[-1], (day, answers[-1]))
        self.assertEqual(billed(bills), owed(history, most, tariffs, day))
        ahead = play(most, deeds[:-1])[1]
        self.assertEqual((history, tariffs, bills[:-1]), ahead)


class StruckLaterTest(unittest.TestCase):
    """A struck reading is paid for, in the end, as if it had never been read."""

    def check(self, most, deeds, day):
        """The reading of that day, struck behind the deeds, and a bill at the very end."""
        answers, state = play(most, deeds + [("strike", day), ("bill", 2000)])
        self.assertEqual(answers[-2], "done")
        history, tariffs, bills = state
        without = tuple(entry for entry in history if entry[:2] != ("read", day))
        self.assertEqual(len(without), len(history) - 1)
        due = owed(without, most, tariffs, 2000)
        self.assertEqual(billed(bills), due)
        self.assertEqual(sum(answer for answer in answers if type(answer) is int), due)
        never = [deed for deed in deeds if deed[:2] != ("read", day)]
        told = play(most, never + [("bill", 2000)])[1]
        self.assertEqual(told[0], without)
        self.assertEqual(billed(told[2]), due)

    def test_a_wrong_reading_behind_bills(self):
        deeds = [("start", 0, 1000, 0), ("tariff", 0, 10, 2, 5, 3), ("read", 10, 40),
                 ("bill", 10), ("read", 20, 135), ("bill", 20), ("bill", 25),
                 ("read", 30, 120), ("bill", 30), ("read", 40, 160), ("bill", 40)]
        for day in (10, 20, 30, 40):
            self.check(10, deeds, day)

    def test_the_only_reading(self):
        deeds = [("tariff", 0, 10, 2, 5, 3), ("start", 5, 1000, 0), ("read", 10, 40),
                 ("bill", 10), ("bill", 12)]
        self.check(10, deeds, 10)

    def test_a_reading_behind_which_another_meter_stands(self):
        deeds = [("start", 0, 1000, 900), ("tariff", 0, 1, 2, 5, 3), ("read", 10, 940),
                 ("bill", 10), ("change", 20, 15, 100, 90), ("bill", 20), ("read", 30, 10),
                 ("bill", 30), ("tariff", 15, 1, 1, 1, 1), ("bill", 30)]
        for day in (10, 30):
            self.check(10, deeds, day)

    def test_made_up_plays(self):
        dice = Dice(9)
        struck_with_bills = 0
        for _ in range(400):
            deeds, most = self.one_deed_a_day(dice), dice.one_of(MOSTS)
            _, (history, _, bills) = play(most, deeds)
            for entry in history:
                if entry[0] == "read":
                    self.check(most, deeds, entry[1])
                    struck_with_bills += len(bills) > 0
        self.assertGreater(struck_with_bills, 300)

    def one_deed_a_day(self, dice):
        """Deeds of which none is refused only because one ahead of it was done."""
        deeds = [("start", 0, 20, dice.below(20))]
        for day in range(1, 3 + dice.below(15)):
            kind = dice.one_of(("read", "read", "bill", "tariff", "change"))
            if kind == "read":
                deeds.append((kind, day, dice.below(20)))
            elif kind == "bill":
                deeds.append((kind, day))
            elif kind == "tariff":
                deeds.append((kind, day) + tuple(dice.below(9) for _ in range(4)))
            else:
                deeds.append((kind, day, dice.below(20), 20, dice.below(20)))
        return deeds


class CountsTest(unittest.TestCase):
    def test_an_answer_counts_where_the_place_is_among_the_points(self):
        dice = Dice(10)
        for _ in range(300):
            deeds, most = made_up_play(dice), dice.one_of(MOSTS)
            for many in range(1, len(deeds) + 1):
                answers, (history, _, _) = play(most, deeds[:many])
                if answers[-1] in ("counts", "doubted"):
                    self.assertEqual(answers[-1] == "counts",
                                     len(history) - 1 in points(history, most))
