import copy
import unittest

from metergap.errors import MeterError
from metergap.plays import play
from tests.helper import check_number, check_tuples

START = ("start", 5, 1000, 990)
READ = ("read", 9, 0)
TARIFF = ("tariff", 0, 100, 10, 2, 1)
EMPTY = ((), (), ())


class PlayCase(unittest.TestCase):
    def told(self, most, deeds):
        """The play's answers and state, with their kinds checked."""
        before = copy.deepcopy(deeds)
        told = play(most, deeds)
        self.assertEqual(deeds, before)
        self.assertIs(type(told), tuple)
        answers, state = told
        self.assertIs(type(answers), list)
        self.assertEqual(len(answers), len(deeds))
        for answer in answers:
            self.assertIn(type(answer), (int, str))
        self.assertIs(type(state), tuple)
        self.assertEqual(len(state), 3)
        for rows in state:
            check_tuples(self, rows)
        return told

    def check(self, most, deeds, answers, state):
        self.assertEqual(self.told(most, deeds), (answers, state))

    def check_last(self, deeds, answer, history=(), tariffs=(), bills=()):
        """The last deed's answer, and the state in the end; most is 10."""
        answers, state = self.told(10, deeds)
        self.assertEqual(answers[-1], answer)
        self.assertEqual(state, (history, tariffs, bills))

    def check_refused(self, ahead, deed, words):
        """The deed is answered by these words, and changes nothing."""
        answers, state = self.told(10, ahead)
        self.assertEqual(self.told(10, ahead + [deed]), (answers + [words], state))
        # What follows goes on as if the refused deed had never been.
        behind = [("owed", 40), ("use", 8), ("read", 50, 30), ("tariff", 7, 1, 1, 1, 1),
                  ("bill", 60)]
        expected, ended = self.told(10, ahead + behind)
        answers_with, ended_with = self.told(10, ahead + [deed] + behind)
        self.assertEqual(answers_with[-5:], expected[-5:])
        self.assertEqual(ended_with, ended)


class AnswersTest(PlayCase):
    def test_no_deeds(self):
        for most in (0, 10 ** 12):
            self.check(most, [], [], EMPTY)

    def test_start(self):
        self.check_last([START], "done", (START,))

    def test_read_that_counts(self):
        self.check_last([START, READ], "counts", (START, ("read", 9, 0, False)))
        self.check_last([START, ("read", 9, 30)], "counts", (START, ("read", 9, 30, False)))

    def test_read_that_is_doubted(self):
        self.check_last([START, ("read", 9, 31)], "doubted", (START, ("read", 9, 31, False)))
        self.check_last([START, ("read", 6, 989)], "doubted", (START, ("read", 6, 989, False)))

    def test_read_with_most_of_0(self):
        answers, _ = self.told(0, [START, ("read", 6, 990), ("read", 7, 991)])
        self.assertEqual(answers, ["done", "counts", "doubted"])

    def test_read_behind_doubted_readings(self):
        deeds = [START, ("read", 6, 500), ("read", 7, 501), ("read", 8, 5), ("read", 9, 16)]
        answers, _ = self.told(10, deeds)
        self.assertEqual(answers, ["done", "doubted", "doubted", "counts", "doubted"])

    def test_an_answer_stands_as_it_was_then(self):
        deeds = [START, ("read", 9, 20), ("read", 10, 15), ("use", 9), ("strike", 9),
                 ("use", 9), ("use", 10)]
        answers, _ = self.told(10, deeds)
        self.assertEqual(answers, ["done", "counts", "doubted", 7, "done", 5, 5])

    def test_change(self):
        change = ("change", 9, 0, 10, 3)
        self.check_last([START, change], "done", (START, change))
        self.check_last([START, ("change", 6, 989, 10, 9)], "done",
                        (START, ("change", 6, 989, 10, 9)))

    def test_strike(self):
        self.check_last([START, READ, ("strike", 9)], "done", (START, ("read", 9, 0, True)))
        self.check_last([START, ("read", 9, 500), ("strike", 9)], "done",
                        (START, ("read", 9, 500, True)))

    def test_tariff(self):
        self.check_last([TARIFF], "done", (), ((0, 100, 10, 2, 1),))
        self.check_last([("tariff", 9, 1, 2, 3, 4), ("tariff", 3, 5, 6, 7, 8)], "done", (),
                        ((3, 5, 6, 7, 8), (9, 1, 2, 3, 4)))

    def test_bill(self):
        history, tariffs = (START, ("read", 9, 0, False)), (TARIFF[1:],)
        self.check_last([START, READ, TARIFF, ("bill", 7)], 241, history, tariffs, ((7, 241),))
        self.check_last([START, READ, TARIFF, ("bill", 7), ("bill", 8)], 120, history, tariffs,
                        ((7, 241), (8, 120)))
        self.check_last([START, READ, TARIFF, ("bill", 7), ("bill", 7)], 0, history, tariffs,
                        ((7, 241), (7, 0)))
        self.check_last([START, READ, TARIFF, ("bill", 3)], 0, history, tariffs, ((3, 0),))

    def test_bill_of_a_credit(self):
        deeds = [START, READ, ("tariff", 0, 0, 1, 100, 0), ("bill", 9), ("strike", 9),
                 ("bill", 9)]
        self.check_last(deeds, -10, (START, ("read", 9, 0, True)), ((0, 0, 1, 100, 0),),
                        ((9, 10), (9, -10)))

    def test_use(self):
        deeds = [("use", day) for day in (0, 4, 5, 6, 7, 8, 9, 2000)]
        answers, state = self.told(10, deeds)
        self.assertEqual(answers, [0] * 8)
        self.assertEqual(state, EMPTY)
        answers, state = self.told(10, [START, READ] + deeds)
        self.assertEqual(answers[2:], [0, 0, 2, 3, 2, 3, 2, 2])
        self.assertEqual(state, ((START, ("read", 9, 0, False)), (), ()))

    def test_owed(self):
        deeds = [("owed", day) for day in (0, 5, 6, 7, 8, 9, 10)]
        answers, state = self.told(10, [START, READ, TARIFF] + deeds)
        self.assertEqual(answers[3:], [0, 0, 120, 241, 361, 482, 602])
        self.assertEqual(state, ((START, ("read", 9, 0, False)), (TARIFF[1:],), ()))

    def test_owed_is_whatever_was_billed(self):
        self.check_last([START, READ, TARIFF, ("bill", 9), ("owed", 7)], 241,
                        (START, ("read", 9, 0, False)), (TARIFF[1:],), ((9, 482),))


class RefusedTest(PlayCase):
    def test_no_meter(self):
        for ahead in ([], [TARIFF]):
            for deed in (("read", 9, 0), ("change", 9, 0, 10, 3), ("bill", 9), ("owed", 9),
                         ("read", 0, 10 ** 12), ("change", 0, 5, 5, 5), ("bill", 0),
                         ("owed", 0)):
                self.check_refused(ahead, deed, "no meter")

    def test_there_already(self):
        for deed in (START, ("start", 10, 10, 3), ("start", 10, 10, 10), ("start", 0, 2, 0)):
            self.check_refused([START], deed, "there already")
            self.check_refused([START, READ], deed, "there already")
        for deed in (TARIFF, ("tariff", 0, 1, 1, 1, 1)):
            self.check_refused([TARIFF], deed, "there already")
            self.check_refused([START, READ, ("tariff", 3, 1, 1, 1, 1), TARIFF], deed,
                               "there already")

    def test_not_later(self):
        for day in (0, 8, 9):
            self.check_refused([START, READ], ("read", day, 0), "not later")
            self.check_refused([START, READ], ("read", day, 1000), "not later")
            self.check_refused([START, READ], ("change", day, 0, 10, 3), "not later")
            self.check_refused([START, READ, ("strike", 9)], ("read", day, 0), "not later")
            self.check_refused([START, ("read", 9, 500)], ("read", day, 0), "not later")

    def test_a_bill_ahead_of_the_last_one(self):
        for day in (0, 5, 8):
            self.check_refused([START, READ, TARIFF, ("bill", 9)], ("bill", day), "not later")

    def test_no_value(self):
        self.check_refused([], ("start", 0, 10, 10), "no value")
        self.check_refused([], ("start", 0, 10, 11), "no value")
        self.check_refused([START], ("read", 9, 1000), "no value")
        self.check_refused([START], ("change", 9, 1000, 10, 3), "no value")
        self.check_refused([START], ("change", 9, 0, 10, 10), "no value")
        self.check_refused([START, ("change", 9, 0, 10, 3)], ("read", 10, 10), "no value")

    def test_no_reading(self):
        for ahead in ([], [START], [START, READ], [START, ("change", 7, 0, 10, 3)]):
            for day in (0, 5, 7, 8, 10):
                self.check_refused(ahead, ("strike", day), "no reading")
        self.check_refused([START, READ, ("strike", 9)], ("strike", 9), "no reading")

    def test_a_refused_reading_cannot_be_struck(self):
        deeds = [START, ("read", 9, 1000), ("strike", 9), READ, ("strike", 9)]
        answers, _ = self.told(10, deeds)
        self.assertEqual(answers, ["done", "no value", "no reading", "counts", "done"])

    def test_each_answer_in_one_play(self):
        deeds = [("owed", 3), ("start", 5, 5, 5), START, START, TARIFF, READ, ("read", 9, 1),
                 ("bill", 9), ("bill", 8), ("read", 10, 500), ("strike", 7), ("strike", 10),
                 ("strike", 10), ("tariff", 0, 0, 0, 0, 0), ("change", 12, 6, 10, 10),
                 ("change", 12, 6, 10, 9), ("use", 12), ("read", 13, 0), ("owed", 13),
                 ("bill", 13)]
        answers = ["no meter", "no value", "done", "there already", "done", "counts",
                   "not later", 482, "not later", "doubted", "no reading", "done",
                   "no reading", "there already", "no value", "done", 2, "counts", 952, 470]
        history = (START, ("read", 9, 0, False), ("read", 10, 500, True),
                   ("change", 12, 6, 10, 9), ("read", 13, 0, False))
        self.check(10, deeds, answers, (history, (TARIFF[1:],), ((9, 482), (13, 470))))


class AloneTest(PlayCase):
    def test_a_play_knows_nothing_of_another_one(self):
        deeds = [START, READ, TARIFF, ("bill", 9)]
        first = self.told(10, deeds)
        self.assertEqual(self.told(10, deeds), first)
        self.assertEqual(self.told(10, [("use", 5)]), ([0], EMPTY))

    def test_most_is_the_plays(self):
        self.assertEqual(self.told(2, [START, READ])[0], ["done", "doubted"])
        self.assertEqual(self.told(3, [START, READ])[0], ["done", "counts"])

    def test_no_refusal_comes_out(self):
        deeds = [("strike", 1), ("bill", 1), ("start", 1, 2, 2), START, START, ("read", 5, 0)]
        try:
            answers, _ = self.told(10, deeds)
        except MeterError as error:
            self.fail(repr(error))
        self.assertEqual(answers[:3], ["no reading", "no meter", "no value"])

    def test_at_the_bounds(self):
        great, dear = 10 ** 12, 10 ** 9
        deeds = [("start", 0, great, 1), ("tariff", 0, dear, dear, great, dear),
                 ("read", 1, 0), ("bill", 2000), ("strike", 1), ("bill", 2000),
                 ("read", 2000, great), ("read", 2000, great - 1), ("use", 1999),
                 ("use", 2000), ("tariff", 2000, 0, 0, 0, 0), ("bill", 2000)]
        amount = 2000 * dear * great
        answers, _ = self.told(great, deeds)
        self.assertEqual(answers, [
            "done", "done", "counts", amount, "done", 2000 * dear - amount, "no value",
            "counts", 500000000, 499999999, "done", (great - 2) * dear])
        for answer in (answers[3], answers[5], answers[-1]):
            check_number(self, answer)

    def test_200_entries(self):
        deeds = [("start", 0, 1000, 0), ("tariff", 0, 1, 1, 1000, 1)]
        for day in range(1, 200):
            deeds += [("read", day, 7 * day % 1000), ("bill", day)]
        answers, state = self.told(7, deeds)
        self.assertEqual(answers, ["done"] * 2 + ["counts", 8] * 199)
        self.assertEqual(len(state[0]), 200)
        self.assertEqual(len(state[2]), 199)
