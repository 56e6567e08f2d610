import unittest

from metergap.days import known_to, use_on, uses
from metergap.histories import begun, read_on, struck
from metergap.points import points
from tests.helper import Dice, check_number, check_number_list, told_by
from tests.naive import day_use

START = ("start", 5, 1000, 990)
# Two spans, 10 in 4 days and 7 in 3, and two readings at the end that don't count.
LONG = (
    START,
    ("read", 9, 0, False),
    ("read", 10, 900, False),
    ("change", 12, 7, 100, 50),
    ("read", 14, 52, True),
    ("read", 20, 49, False),
)


class DaysCase(unittest.TestCase):
    def check_uses(self, history, most, low, high, expected):
        told = told_by(self, uses, history, most, low, high)
        check_number_list(self, told)
        self.assertEqual(told, expected)
        for day in range(low, high):
            use = told_by(self, use_on, history, most, day)
            check_number(self, use)
            self.assertEqual(use, expected[day - low])

    def check_known(self, history, most, day):
        told = told_by(self, known_to, history, most)
        check_number(self, told)
        self.assertEqual(told, day)


class KnownToTest(DaysCase):
    def test_an_empty_history(self):
        self.check_known((), 0, 0)
        self.check_known((), 10 ** 12, 0)

    def test_a_start_alone(self):
        self.check_known((START,), 10, 5)
        self.check_known((("start", 0, 10, 1),), 0, 0)
        self.check_known((("start", 2000, 10, 1),), 0, 2000)

    def test_a_reading_that_counts(self):
        self.check_known((START, ("read", 9, 0, False)), 10, 9)

    def test_doubted_readings_at_the_end(self):
        self.check_known(LONG[:3], 10, 9)
        self.check_known((START, ("read", 6, 500, False)), 10, 5)

    def test_a_change(self):
        self.check_known(LONG[:4], 10, 12)
        self.check_known(LONG[:4], 0, 12)

    def test_struck_and_doubted_readings_at_the_end(self):
        self.check_known(LONG[:5], 10, 12)
        self.check_known(LONG, 10, 12)
        self.check_known(LONG, 99, 20)

    def test_it_falls_back_where_the_last_reading_is_struck(self):
        history = read_on(read_on((START,), 9, 0), 11, 5)
        self.check_known(history, 10, 11)
        self.check_known(struck(history, 11), 10, 9)
        self.check_known(struck(struck(history, 11), 9), 10, 5)


class NoSpanTest(DaysCase):
    def test_an_empty_history(self):
        self.check_uses((), 10, 0, 5, [0] * 5)
        self.check_uses((), 10, 2000, 2001, [0])

    def test_a_start_alone(self):
        self.check_uses((START,), 10, 0, 12, [0] * 12)
        self.check_uses((("start", 0, 10, 9),), 10, 0, 3, [0] * 3)

    def test_a_start_and_a_doubted_or_a_struck_reading(self):
        for reading in (("read", 9, 500, False), ("read", 9, 0, True)):
            self.check_uses((START, reading), 10, 0, 12, [0] * 12)


class SpansTest(DaysCase):
    def test_a_whole_history(self):
        expected = [0] * 5 + [2, 3, 2, 3] + [2, 2, 3] + [2] * 12
        self.check_uses(LONG, 10, 0, 24, expected)

    def test_a_day_ahead_of_all(self):
        for day in (0, 1, 4):
            self.assertEqual(use_on(LONG, 10, day), 0)

    def test_the_first_and_the_last_day_of_a_span(self):
        history = (START, ("read", 6, 993, False))
        self.check_uses(history, 10, 4, 9, [0, 3, 3, 3, 3])
        history = (START, ("read", 7, 993, False))
        self.check_uses(history, 10, 4, 9, [0, 1, 2, 1, 1])

    def test_the_day_between_two_spans_is_the_later_ones(self):
        history = (START, ("read", 6, 999, False), ("read", 8, 4, False))
        self.check_uses(history, 10, 5, 10, [9, 2, 3, 2, 2])

    def test_behind_all_the_last_span_goes_on_rounded_down(self):
        history = (START, ("read", 8, 1, False))
        self.check_uses(history, 10, 5, 8, [3, 4, 4])
        self.check_uses(history, 10, 8, 12, [3, 3, 3, 3])
        self.assertEqual(use_on(history, 10, 2000), 3)

    def test_a_last_span_of_less_than_one_for_a_day(self):
        history = (START, ("read", 8, 992, False))
        self.check_uses(history, 10, 4, 11, [0, 0, 1, 1, 0, 0, 0])

    def test_a_last_span_of_no_use(self):
        history = (START, ("read", 6, 999, False), ("read", 8, 999, False))
        self.check_uses(history, 10, 4, 11, [0, 9, 0, 0, 0, 0, 0])

    def test_a_doubted_reading_parts_no_span(self):
        history = (START, ("read", 6, 500, False), ("read", 9, 0, False))
        self.check_uses(history, 10, 5, 11, [2, 3, 2, 3, 2, 2])

    def test_behind_a_struck_reading(self):
        history = (START, ("read", 7, 4, False), ("read", 9, 16, False))
        self.check_uses(history, 10, 4, 11, [0, 7, 7, 6, 6, 6, 6])
        self.check_uses(struck(history, 9), 10, 4, 11, [0, 7, 7, 7, 7, 7, 7])
        self.check_uses(struck(history, 7), 10, 4, 11, [0, 6, 7, 6, 7, 6, 6])

    def test_most_decides(self):
        history = (START, ("read", 7, 4, False), ("read", 9, 20, False))
        self.check_uses(history, 8, 4, 11, [0, 7, 7, 8, 8, 8, 8])
        self.check_uses(history, 7, 4, 11, [0, 7, 7, 7, 7, 7, 7])
        self.check_uses(history, 6, 4, 11, [0] * 7)

    def test_a_change_of_more_than_most_is_shared_out(self):
        history = (START, ("change", 7, 985, 10, 0))
        self.check_uses(history, 0, 4, 9, [0, 497, 498, 497, 497])


class StretchTest(DaysCase):
    def test_an_empty_stretch(self):
        for history in ((), (START,), LONG):
            for day in (0, 5, 9, 12, 30, 2000):
                self.check_uses(history, 10, day, day, [])
                self.check_uses(history, 10, day, max(0, day - 3), [])

    def test_one_day(self):
        for day, use in ((4, 0), (5, 2), (6, 3), (8, 3), (9, 2), (11, 3), (12, 2), (99, 2)):
            self.check_uses(LONG, 10, day, day + 1, [use])

    def test_within_and_over_spans(self):
        self.check_uses(LONG, 10, 6, 8, [3, 2])
        self.check_uses(LONG, 10, 7, 11, [2, 3, 2, 2])
        self.check_uses(LONG, 10, 3, 6, [0, 0, 2])
        self.check_uses(LONG, 10, 11, 14, [3, 2, 2])
        self.check_uses(LONG, 10, 50, 53, [2, 2, 2])

    def test_all_days(self):
        told = uses(LONG, 10, 0, 2001)
        self.assertEqual(len(told), 2001)
        self.assertEqual(told[:12], [0] * 5 + [2, 3, 2, 3] + [2, 2, 3])
        self.assertEqual(told[12:], [2] * 1989)


class TogetherTest(DaysCase):
    def test_at_the_bounds(self):
        great = 10 ** 12
        history = (("start", 0, great, 1), ("read", 2000, 0, False))
        told = uses(history, great, 0, 2000)
        self.assertEqual(sum(told), great - 1)
        self.assertEqual(set(told), {499999999, 500000000})
        self.assertEqual(use_on(history, great, 2000), 499999999)
        self.check_uses((("start", 2000, great, 1),), great, 1998, 2003, [0] * 5)

    def test_200_entries(self):
        history = begun((), 0, 10 ** 12, 0)
        for day in range(10, 2000, 10):
            history = read_on(history, day, day * 10 ** 8 + day)
        told = uses(history, 10 ** 12, 0, 2001)
        self.assertEqual(told, [10 ** 8 + 1] * 2001)
        self.check_known(history, 10 ** 12, 1990)

    def test_the_days_between_two_that_count_have_what_went_through(self):
        dice = Dice(1)
        for _ in range(300):
            history, truth = self.made_up(dice)
            most = dice.one_of((3, 10, 30, 100, 1000))
            told = uses(history, most, 0, 80)
            self.assertGreaterEqual(min(told), 0)
            places = points(history, most)
            for one, other in zip(places, places[1:]):
                low, high = history[one][1], history[other][1]
                self.assertEqual(sum(told[low:high]), (truth[other] - truth[one]) % 50)
            self.assertEqual(told, [day_use(history, most, day) for day in range(80)])

    def made_up(self, dice):
        """A history of a meter of size 50, and what it would show if it turned over never."""
        day, value = dice.below(10), dice.below(50)
        history, truth = (("start", day, 50, value),), [value]
        for _ in range(dice.below(8)):
            day += 1 + dice.below(9)
            value += dice.below(60)
            truth.append(value)
            history += (("read", day, value % 50, dice.below(5) == 0),)
        return history, truth
