import itertools
import unittest

from metergap.histories import begun, changed_on, read_on, struck
from metergap.points import points, spans
from tests.helper import check_number, check_number_list, told_by
from tests.naive import counting, pairs

START = ("start", 0, 1000, 0)


def reading(day, value):
    return ("read", day, value, False)


def struck_reading(day, value):
    return ("read", day, value, True)


class PointsCase(unittest.TestCase):
    def check(self, history, most, places, rows):
        told = told_by(self, points, history, most)
        check_number_list(self, told)
        self.assertEqual(told, places)
        told = told_by(self, spans, history, most)
        self.assertIs(type(told), list)
        for row in told:
            self.assertIs(type(row), tuple)
            for part in row:
                check_number(self, part)
        self.assertEqual(told, rows)


class OrdinaryTest(PointsCase):
    def test_an_empty_history(self):
        for most in (0, 1, 10 ** 12):
            self.check((), most, [], [])

    def test_a_start_alone(self):
        for most in (0, 10 ** 12):
            self.check((("start", 7, 1000, 900),), most, [0], [])

    def test_readings_that_count(self):
        history = (("start", 3, 1000, 100), reading(10, 150), reading(20, 180))
        self.check(history, 10, [0, 1, 2], [(3, 10, 50), (10, 20, 30)])

    def test_the_value_of_the_start_is_taken_off(self):
        self.check((("start", 0, 1000, 400), reading(1, 410)), 10, [0, 1], [(0, 1, 10)])
        self.check((("start", 0, 1000, 400), reading(1, 411)), 10, [0], [])

    def test_a_meter_that_turns_over(self):
        history = (("start", 0, 100, 95), reading(1, 5), reading(2, 4))
        self.check(history, 10, [0, 1], [(0, 1, 10)])
        self.check(history, 9, [0, 2], [(0, 2, 9)])
        self.check(history, 99, [0, 1, 2], [(0, 1, 10), (1, 2, 99)])

    def test_a_meter_of_size_2(self):
        history = (("start", 0, 2, 1), reading(1, 0), reading(2, 0), reading(3, 1))
        self.check(history, 1, [0, 1, 2, 3], [(0, 1, 1), (1, 2, 0), (2, 3, 1)])


class MostTest(PointsCase):
    def test_just_most_for_one_day_and_one_more(self):
        self.check((START, reading(1, 10)), 10, [0, 1], [(0, 1, 10)])
        self.check((START, reading(1, 11)), 10, [0], [])

    def test_just_most_for_each_of_several_days_and_one_more(self):
        start = ("start", 5, 1000, 0)
        self.check((start, reading(12, 70)), 10, [0, 1], [(5, 12, 70)])
        self.check((start, reading(12, 71)), 10, [0], [])

    def test_most_of_0(self):
        history = (START, reading(5, 0), reading(6, 1), reading(900, 999), reading(901, 0))
        self.check(history, 0, [0, 1, 4], [(0, 5, 0), (5, 901, 0)])

    def test_the_same_value_is_no_use(self):
        self.check((START, reading(5, 0)), 1000, [0, 1], [(0, 5, 0)])

    def test_just_most_while_turning_over_and_one_more(self):
        start = ("start", 0, 1000, 985)
        self.check((start, reading(3, 15)), 10, [0, 1], [(0, 3, 30)])
        self.check((start, reading(3, 16)), 10, [0], [])

    def test_at_the_bounds(self):
        great = 10 ** 12
        start = ("start", 0, great, 1)
        self.check((start, reading(2000, 0)), great, [0, 1], [(0, 2000, great - 1)])
        self.check((start, reading(1, 0)), great - 1, [0, 1], [(0, 1, great - 1)])
        self.check((start, reading(1, 0)), great - 2, [0], [])
        self.check((("start", 2000, great, 1),), great, [0], [])


class DoubtedTest(PointsCase):
    def test_a_later_one_counts_again(self):
        history = (START, reading(5, 100), reading(20, 150))
        self.check(history, 10, [0, 2], [(0, 20, 150)])

    def test_days_and_use_are_counted_from_the_last_that_counts(self):
        # Since the doubted one it would be one day, and nearly all of the meter's size.
        history = (START, reading(5, 60), reading(6, 55))
        self.check(history, 10, [0, 2], [(0, 6, 55)])

    def test_still_too_much_since_the_last_that_counts(self):
        # Since the doubted one it would be 1 in 4 days.
        history = (START, reading(5, 100), reading(9, 101))
        self.check(history, 10, [0], [])

    def test_not_counted_from_the_start_where_a_reading_counts(self):
        history = (START, reading(10, 5), reading(11, 40))
        self.check(history, 10, [0, 1], [(0, 10, 5)])

    def test_several_in_a_row(self):
        history = (START, reading(1, 500), reading(2, 501), reading(3, 502), reading(4, 40))
        self.check(history, 10, [0, 4], [(0, 4, 40)])

    def test_a_value_below_the_one_ahead(self):
        history = (START, reading(5, 50), reading(6, 49), reading(7, 60))
        self.check(history, 10, [0, 1, 3], [(0, 5, 50), (5, 7, 10)])

    def test_the_last_one(self):
        self.check((START, reading(5, 50), reading(6, 61)), 10, [0, 1], [(0, 5, 50)])


class StruckReadingTest(PointsCase):
    def test_the_only_one(self):
        self.check((START, struck_reading(5, 50)), 10, [0], [])

    def test_one_between(self):
        history = (START, struck_reading(5, 20), reading(10, 50))
        self.check(history, 10, [0, 2], [(0, 10, 50)])

    def test_the_last_entry(self):
        history = (START, reading(5, 20), struck_reading(10, 50))
        self.check(history, 10, [0, 1], [(0, 5, 20)])

    def test_one_of_no_use(self):
        self.check((START, struck_reading(5, 0)), 0, [0], [])

    def test_one_between_two_changes(self):
        history = (START, ("change", 1, 5, 100, 7), struck_reading(2, 8),
                   ("change", 3, 9, 50, 1))
        self.check(history, 10, [0, 1, 3], [(0, 1, 5), (1, 3, 2)])

    def test_one_counts_again_and_one_counts_no_more(self):
        history = (START, reading(10, 100), reading(11, 50), reading(20, 190))
        self.check(history, 10, [0, 1, 3], [(0, 10, 100), (10, 20, 90)])
        self.check(struck(history, 10), 10, [0, 2], [(0, 11, 50)])
        both = struck(struck(history, 10), 11)
        self.check(both, 10, [0, 3], [(0, 20, 190)])


class ChangeTest(PointsCase):
    def test_it_counts_whatever_went_through(self):
        history = (START, ("change", 1, 999, 50, 7))
        for most in (0, 10, 998, 999):
            self.check(history, most, [0, 1], [(0, 1, 999)])

    def test_its_last_value_is_by_the_old_size(self):
        history = (("start", 0, 100, 90), ("change", 1, 10, 1000, 500), reading(2, 499))
        self.check(history, 999, [0, 1, 2], [(0, 1, 20), (1, 2, 999)])
        self.check(history, 998, [0, 1], [(0, 1, 20)])

    def test_its_first_value_is_where_the_new_meter_begins(self):
        history = (START, ("change", 5, 30, 100, 95), reading(6, 5))
        self.check(history, 10, [0, 1, 2], [(0, 5, 30), (5, 6, 10)])
        self.check(history, 9, [0, 1], [(0, 5, 30)])

    def test_behind_a_doubted_reading(self):
        history = (START, reading(5, 500), ("change", 8, 30, 100, 0), reading(9, 1))
        self.check(history, 10, [0, 2, 3], [(0, 8, 30), (8, 9, 1)])

    def test_behind_a_reading_that_counts(self):
        history = (START, reading(5, 40), ("change", 8, 30, 100, 0))
        self.check(history, 10, [0, 1, 2], [(0, 5, 40), (5, 8, 990)])

    def test_the_size_goes_on_over_readings(self):
        history = (START, ("change", 5, 30, 100, 95), reading(6, 98), struck_reading(7, 99),
                   reading(8, 5), ("change", 9, 2, 10, 0))
        self.check(history, 10, [0, 1, 2, 4, 5],
                   [(0, 5, 30), (5, 6, 3), (6, 8, 7), (8, 9, 97)])

    def test_one_straight_behind_the_other(self):
        history = (START, ("change", 5, 30, 100, 95), ("change", 6, 94, 10, 9),
                   ("change", 7, 0, 2, 1))
        self.check(history, 0, [0, 1, 2, 3], [(0, 5, 30), (5, 6, 99), (6, 7, 1)])


class ManyTest(PointsCase):
    def test_200_entries(self):
        size = 10 ** 12
        history = begun((), 0, size, size - 5)
        for day in range(10, 2000, 10):
            history = read_on(history, day, (size - 5 + day * 10 ** 8) % size)
        self.assertEqual(len(history), 200)
        rows = [(day, day + 10, 10 ** 9) for day in range(0, 1990, 10)]
        self.check(history, 10 ** 12, list(range(200)), rows)
        self.check(history, 10 ** 8, list(range(200)), rows)
        self.check(history, 10 ** 8 - 1, [0], [])

    def test_200_changes(self):
        history = begun((), 0, 10, 3)
        for day in range(1, 200):
            history = changed_on(history, day, 2, 10, 3)
        self.check(history, 0, list(range(200)), [(day, day + 1, 9) for day in range(199)])

    def test_small_histories_of_all_kinds(self):
        later = (reading(1, 2), ("change", 2, 4, 3, 1), reading(3, 0), reading(4, 2),
                 ("change", 5, 0, 5, 2), struck_reading(6, 1), reading(7, 1))
        for many in range(len(later) + 1):
            for chosen in itertools.combinations(later, many):
                history = (("start", 0, 5, 3),) + chosen
                for most in (0, 1, 2, 5):
                    self.check(history, most, counting(history, most), pairs(history, most))
