import unittest

from metergap.turning import gone, share, shown_then
from tests.helper import check_number
from tests.naive import steps_between


class GoneTest(unittest.TestCase):
    def test_without_turning_over(self):
        self.assertEqual(gone(1000, 120, 345), 225)

    def test_the_same_value_is_no_use_and_no_whole_turn(self):
        self.assertEqual(gone(1000, 345, 345), 0)
        self.assertEqual(gone(1000, 0, 0), 0)
        self.assertEqual(gone(1000, 999, 999), 0)

    def test_turned_over_once(self):
        self.assertEqual(gone(1000, 990, 15), 25)
        self.assertEqual(gone(1000, 999, 0), 1)
        self.assertEqual(gone(1000, 1, 0), 999)
        self.assertEqual(gone(1000, 346, 345), 999)

    def test_the_whole_range_without_turning_over(self):
        self.assertEqual(gone(1000, 0, 999), 999)

    def test_a_size_of_2(self):
        told = [gone(2, one, other) for one in (0, 1) for other in (0, 1)]
        self.assertEqual(told, [0, 1, 1, 0])

    def test_small_sizes_by_counting(self):
        for size in range(2, 9):
            for one in range(size):
                for other in range(size):
                    told = gone(size, one, other)
                    self.assertEqual(told, steps_between(size, one, other))
                    check_number(self, told)

    def test_great_sizes(self):
        size = 10 ** 12
        self.assertEqual(gone(size, size - 1, 0), 1)
        self.assertEqual(gone(size, 0, size - 1), size - 1)
        self.assertEqual(gone(size, 1, 0), size - 1)
        self.assertEqual(gone(size - 7, size - 8, 5), 6)


class ShownThenTest(unittest.TestCase):
    def test_without_turning_over(self):
        self.assertEqual(shown_then(1000, 120, 225), 345)

    def test_no_use_shows_the_same(self):
        self.assertEqual(shown_then(1000, 345, 0), 345)
        self.assertEqual(shown_then(1000, 999, 0), 999)

    def test_behind_the_greatest_number_comes_nought(self):
        self.assertEqual(shown_then(1000, 998, 1), 999)
        self.assertEqual(shown_then(1000, 999, 1), 0)
        self.assertEqual(shown_then(1000, 0, 999), 999)

    def test_a_whole_turn_shows_the_same(self):
        self.assertEqual(shown_then(1000, 345, 1000), 345)

    def test_turned_over_many_times_in_one_use(self):
        self.assertEqual(shown_then(10, 7, 95), 2)
        self.assertEqual(shown_then(1000, 345, 7 * 1000 + 700), 45)

    def test_a_size_of_2(self):
        self.assertEqual([shown_then(2, 0, use) for use in range(5)], [0, 1, 0, 1, 0])
        self.assertEqual([shown_then(2, 1, use) for use in range(5)], [1, 0, 1, 0, 1])

    def test_great_uses_are_not_counted_up(self):
        self.assertEqual(shown_then(2, 1, 10 ** 15), 1)
        self.assertEqual(shown_then(3, 2, 10 ** 15), 0)
        self.assertEqual(shown_then(10 ** 12, 10 ** 12 - 1, 10 ** 15 + 1), 0)

    def test_goes_with_gone(self):
        for size in range(2, 9):
            for one in range(size):
                for use in range(3 * size):
                    other = shown_then(size, one, use)
                    check_number(self, other)
                    self.assertEqual(other in range(size), True)
                    self.assertEqual(gone(size, one, other), use % size)


class ShareTest(unittest.TestCase):
    def shares(self, use, days):
        told = [share(use, days, at) for at in range(days)]
        for number in told:
            check_number(self, number)
        return told

    def test_the_days_ahead_are_rounded_down(self):
        self.assertEqual(self.shares(10, 4), [2, 3, 2, 3])
        self.assertEqual(self.shares(11, 4), [2, 3, 3, 3])
        self.assertEqual(self.shares(7, 3), [2, 2, 3])

    def test_what_comes_out_even(self):
        self.assertEqual(self.shares(12, 4), [3, 3, 3, 3])
        self.assertEqual(self.shares(4, 4), [1, 1, 1, 1])

    def test_a_use_less_than_its_days(self):
        self.assertEqual(self.shares(2, 5), [0, 0, 1, 0, 1])
        self.assertEqual(self.shares(1, 3), [0, 0, 1])

    def test_a_use_of_0(self):
        self.assertEqual(self.shares(0, 4), [0, 0, 0, 0])
        self.assertEqual(self.shares(0, 1), [0])

    def test_one_day_alone_has_all(self):
        self.assertEqual(self.shares(17, 1), [17])
        self.assertEqual(self.shares(10 ** 15, 1), [10 ** 15])

    def test_all_have_the_use_and_none_is_below_nought(self):
        for use in (0, 1, 5, 6, 7, 99, 100, 10 ** 15, 10 ** 15 - 1):
            for days in (1, 2, 3, 7, 365, 2000):
                shares = self.shares(use, days)
                self.assertEqual(sum(shares), use)
                self.assertGreaterEqual(min(shares), 0)
                together = 0
                for at, number in enumerate(shares):
                    self.assertEqual(together, at * use // days)
                    together += number
