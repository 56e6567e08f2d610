import copy
import unittest

from metergap.errors import NoMeter, NoReading, NotLater, NoValue, StandsAlready
from metergap.histories import begun, changed_on, read_on, size_at, struck
from tests.helper import check_number, check_refused, check_tuples

START = ("start", 5, 100, 40)
LONG = (
    START,
    ("read", 10, 60, False),
    ("read", 12, 99, True),
    ("read", 15, 80, False),
    ("change", 20, 90, 10, 3),
    ("read", 25, 7, False),
    ("change", 30, 9, 1000, 0),
    ("read", 35, 500, False),
)
STRUCK_LAST = (START, ("read", 10, 60, True))


class HistoryCase(unittest.TestCase):
    def check_told(self, expected, action, history, *args):
        """The history told is as expected, and the one handed in is as it was."""
        before = copy.deepcopy(history)
        told = action(history, *args)
        check_tuples(self, told)
        self.assertEqual(told, expected)
        self.assertEqual(history, before)

    def check_no(self, kind, action, history, *args):
        """The call is refused, and the history handed in is as it was."""
        before = copy.deepcopy(history)
        check_refused(self, kind, action, history, *args)
        self.assertEqual(history, before)


class BegunTest(HistoryCase):
    def test_an_empty_history(self):
        self.check_told((START,), begun, (), 5, 100, 40)
        self.check_told((("start", 0, 2, 0),), begun, (), 0, 2, 0)

    def test_a_history_that_is_not_empty(self):
        for day in (4, 5, 6):
            self.check_no(StandsAlready, begun, (START,), day, 100, 40)
        for day in (0, 20, 35, 2000):
            self.check_no(StandsAlready, begun, LONG, day, 100, 40)
        self.check_no(StandsAlready, begun, STRUCK_LAST, 11, 100, 40)

    def test_the_value_is_below_the_size(self):
        self.check_told((("start", 5, 100, 99),), begun, (), 5, 100, 99)
        self.check_told((("start", 5, 2, 1),), begun, (), 5, 2, 1)
        great = 10 ** 12
        self.check_told((("start", 0, great, great - 1),), begun, (), 0, great, great - 1)

    def test_a_value_at_the_size_or_above(self):
        self.check_no(NoValue, begun, (), 5, 100, 100)
        self.check_no(NoValue, begun, (), 5, 100, 101)
        self.check_no(NoValue, begun, (), 5, 2, 2)
        self.check_no(NoValue, begun, (), 0, 10 ** 12, 10 ** 12)

    def test_that_one_stands_there_is_told_ahead_of_the_value(self):
        self.check_no(StandsAlready, begun, (START,), 6, 100, 100)
        self.check_no(StandsAlready, begun, (START,), 5, 10, 40)


class ReadOnTest(HistoryCase):
    def test_behind_a_start(self):
        self.check_told((START, ("read", 6, 41, False)), read_on, (START,), 6, 41)

    def test_a_value_below_the_one_ahead_is_taken(self):
        self.check_told((START, ("read", 6, 0, False)), read_on, (START,), 6, 0)

    def test_behind_all_kinds_of_entries(self):
        for many in range(1, len(LONG) + 1):
            history = LONG[:many]
            expected = history + (("read", 2000, 1, False),)
            self.check_told(expected, read_on, history, 2000, 1)

    def test_no_meter(self):
        self.check_no(NoMeter, read_on, (), 0, 0)
        self.check_no(NoMeter, read_on, (), 2000, 10 ** 12)

    def test_a_day_that_is_not_behind_the_last(self):
        for day in (0, 4, 5):
            self.check_no(NotLater, read_on, (START,), day, 50)
        for day in (0, 33, 34, 35):
            self.check_no(NotLater, read_on, LONG, day, 600)
        for day in (25, 29, 30):
            self.check_no(NotLater, read_on, LONG[:7], day, 1)

    def test_a_struck_reading_holds_its_day(self):
        for day in (6, 9, 10):
            self.check_no(NotLater, read_on, STRUCK_LAST, day, 50)
        expected = STRUCK_LAST + (("read", 11, 50, False),)
        self.check_told(expected, read_on, STRUCK_LAST, 11, 50)

    def test_the_value_is_below_the_size_of_the_meter_that_stands_there(self):
        for history, size in ((LONG[:1], 100), (LONG[:4], 100), (LONG[:5], 10),
                              (LONG[:6], 10), (LONG[:7], 1000), (LONG, 1000)):
            expected = history + (("read", 40, size - 1, False),)
            self.check_told(expected, read_on, history, 40, size - 1)
            self.check_no(NoValue, read_on, history, 40, size)
            self.check_no(NoValue, read_on, history, 40, size + 1)

    def test_a_size_of_2(self):
        history = (("start", 0, 2, 0),)
        self.check_told(history + (("read", 1, 1, False),), read_on, history, 1, 1)
        self.check_no(NoValue, read_on, history, 1, 2)

    def test_the_day_is_told_ahead_of_the_value(self):
        self.check_no(NotLater, read_on, (START,), 5, 100)
        self.check_no(NotLater, read_on, (START,), 4, 1000)
        self.check_no(NotLater, read_on, STRUCK_LAST, 10, 100)

    def test_a_history_of_200_entries(self):
        history = begun((), 0, 1000, 0)
        for day in range(1, 200):
            history = read_on(history, day, day)
        self.assertEqual(len(history), 200)
        self.assertEqual(history[-1], ("read", 199, 199, False))
        self.assertEqual(size_at(history, 199), 1000)


class ChangedOnTest(HistoryCase):
    def test_behind_a_start(self):
        expected = (START, ("change", 6, 50, 10, 3))
        self.check_told(expected, changed_on, (START,), 6, 50, 10, 3)

    def test_behind_all_kinds_of_entries(self):
        for many in range(1, len(LONG) + 1):
            history = LONG[:many]
            expected = history + (("change", 2000, 1, 2, 0),)
            self.check_told(expected, changed_on, history, 2000, 1, 2, 0)

    def test_no_meter(self):
        self.check_no(NoMeter, changed_on, (), 0, 0, 10, 0)
        self.check_no(NoMeter, changed_on, (), 5, 10, 10, 10)

    def test_a_day_that_is_not_behind_the_last(self):
        for day in (0, 4, 5):
            self.check_no(NotLater, changed_on, (START,), day, 50, 10, 3)
        for day in (0, 34, 35):
            self.check_no(NotLater, changed_on, LONG, day, 600, 10, 3)
        for day in (29, 30):
            self.check_no(NotLater, changed_on, LONG[:7], day, 600, 10, 3)

    def test_a_struck_reading_holds_its_day(self):
        for day in (9, 10):
            self.check_no(NotLater, changed_on, STRUCK_LAST, day, 50, 10, 3)
        expected = STRUCK_LAST + (("change", 11, 50, 10, 3),)
        self.check_told(expected, changed_on, STRUCK_LAST, 11, 50, 10, 3)

    def test_last_is_below_the_size_of_the_meter_that_stood_there(self):
        for history, size in ((LONG[:1], 100), (LONG[:4], 100), (LONG[:5], 10),
                              (LONG[:6], 10), (LONG[:7], 1000), (LONG, 1000)):
            for other in (2, 10 ** 12):
                expected = history + (("change", 40, size - 1, other, 0),)
                self.check_told(expected, changed_on, history, 40, size - 1, other, 0)
                self.check_no(NoValue, changed_on, history, 40, size, other, 0)
                self.check_no(NoValue, changed_on, history, 40, size + 1, other, 0)

    def test_first_is_below_the_size_of_the_other_meter(self):
        for size in (2, 10, 99, 100, 101, 10 ** 12):
            expected = (START, ("change", 6, 0, size, size - 1))
            self.check_told(expected, changed_on, (START,), 6, 0, size, size - 1)
            self.check_no(NoValue, changed_on, (START,), 6, 0, size, size)
            self.check_no(NoValue, changed_on, (START,), 6, 0, size, size + 1)

    def test_both_values_too_great(self):
        self.check_no(NoValue, changed_on, (START,), 6, 100, 10, 10)

    def test_the_day_is_told_ahead_of_the_values(self):
        self.check_no(NotLater, changed_on, (START,), 5, 100, 10, 3)
        self.check_no(NotLater, changed_on, (START,), 5, 50, 10, 10)
        self.check_no(NotLater, changed_on, STRUCK_LAST, 10, 100, 10, 10)


class StruckTest(HistoryCase):
    def check_struck(self, history, place):
        kind, day, value, _ = history[place]
        expected = history[:place] + ((kind, day, value, True),) + history[place + 1:]
        self.check_told(expected, struck, history, day)

    def test_the_first_reading(self):
        self.check_struck(LONG, 1)

    def test_a_reading_in_the_middle(self):
        self.check_struck(LONG, 3)
        self.check_struck(LONG, 5)

    def test_the_last_reading(self):
        self.check_struck(LONG, 7)

    def test_the_only_reading(self):
        self.check_struck((START, ("read", 6, 0, False)), 1)

    def test_only_the_one_of_readings_alike_in_value(self):
        alike = (START, ("read", 6, 50, False), ("read", 7, 50, False), ("read", 8, 50, False))
        for place in (1, 2, 3):
            self.check_struck(alike, place)

    def test_one_after_the_other(self):
        told = struck(struck(LONG, 35), 10)
        self.assertEqual([row[3] for row in told if row[0] == "read"],
                         [True, True, False, False, True])

    def test_what_is_read_on_is_struck_and_read_on_again(self):
        history = read_on(begun((), 5, 100, 40), 10, 60)
        self.assertEqual(struck(history, 10), STRUCK_LAST)
        self.assertEqual(read_on(struck(history, 10), 11, 61),
                         STRUCK_LAST + (("read", 11, 61, False),))

    def test_the_start(self):
        self.check_no(NoReading, struck, (START,), 5)
        self.check_no(NoReading, struck, LONG, 5)
        # Its fourth part, a value of 0, isn't to be taken for a mark.
        self.check_no(NoReading, struck, (("start", 5, 100, 0),), 5)

    def test_a_change(self):
        self.check_no(NoReading, struck, LONG, 20)
        self.check_no(NoReading, struck, LONG, 30)

    def test_a_day_without_an_entry(self):
        for day in (0, 4, 6, 9, 11, 13, 34, 36, 2000):
            self.check_no(NoReading, struck, LONG, day)

    def test_numbers_that_are_no_days(self):
        # 60 is a value read, 100 and 1000 are sizes.
        for day in (60, 100, 1000):
            self.check_no(NoReading, struck, LONG, day)

    def test_a_struck_reading(self):
        self.check_no(NoReading, struck, LONG, 12)
        self.check_no(NoReading, struck, STRUCK_LAST, 10)
        self.check_no(NoReading, struck, struck(LONG, 15), 15)

    def test_an_empty_history(self):
        self.check_no(NoReading, struck, (), 0)
        self.check_no(NoReading, struck, (), 5)


class SizeAtTest(HistoryCase):
    def test_behind_each_place(self):
        before = copy.deepcopy(LONG)
        told = [size_at(LONG, place) for place in range(len(LONG))]
        self.assertEqual(told, [100, 100, 100, 100, 10, 10, 1000, 1000])
        self.assertEqual(LONG, before)
        for size in told:
            check_number(self, size)

    def test_a_start_alone(self):
        self.assertEqual(size_at((START,), 0), 100)
        self.assertEqual(size_at((("start", 0, 10 ** 12, 1),), 0), 10 ** 12)

    def test_a_change_straight_behind_a_start_and_behind_a_change(self):
        history = (START, ("change", 6, 50, 10, 3), ("change", 7, 4, 2, 1))
        self.assertEqual([size_at(history, place) for place in (0, 1, 2)], [100, 10, 2])

    def test_a_struck_reading_changes_no_size(self):
        told = struck(LONG, 25)
        self.assertEqual(size_at(told, 5), 10)
        self.assertEqual(size_at(told, 3), 100)
