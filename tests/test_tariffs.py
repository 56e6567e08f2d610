import copy
import unittest

from metergap.errors import StandsAlready
from metergap.tariffs import cost, tariff_on, with_tariff
from tests.helper import check_number, check_refused, check_tuples

EARLY = (10, 100, 2, 5, 3)
MIDDLE = (20, 50, 9, 0, 1)
LATE = (30, 7, 0, 10 ** 12, 10 ** 9)
ALL = (EARLY, MIDDLE, LATE)


class WithTariffTest(unittest.TestCase):
    def check_told(self, tariffs, tariff, expected):
        before = copy.deepcopy((tariffs, tariff))
        told = with_tariff(tariffs, tariff)
        check_tuples(self, told)
        self.assertEqual(told, expected)
        self.assertEqual((tariffs, tariff), before)

    def test_the_first_one(self):
        self.check_told((), EARLY, (EARLY,))

    def test_ahead_of_others(self):
        self.check_told((MIDDLE, LATE), EARLY, ALL)

    def test_between_others(self):
        self.check_told((EARLY, LATE), MIDDLE, ALL)

    def test_behind_others(self):
        self.check_told((EARLY, MIDDLE), LATE, ALL)

    def test_the_day_alone_orders(self):
        dear_first = (1, 900, 900, 900, 900)
        cheap_later = (2, 0, 0, 0, 0)
        self.check_told((cheap_later,), dear_first, (dear_first, cheap_later))
        self.check_told((dear_first,), cheap_later, (dear_first, cheap_later))

    def test_days_next_to_one_that_is_there(self):
        for day in (9, 11):
            other = (day, 1, 1, 1, 1)
            self.check_told((EARLY,), other, tuple(sorted((EARLY, other))))

    def test_one_by_one_in_any_order(self):
        tariffs = ()
        for day in (7, 3, 2000, 0, 5, 1):
            tariffs = with_tariff(tariffs, (day, day, 1, 1, 1))
        self.assertEqual([row[0] for row in tariffs], [0, 1, 3, 5, 7, 2000])

    def test_a_day_that_is_there_is_refused(self):
        for row in ALL:
            check_refused(self, StandsAlready, with_tariff, ALL, (row[0], 1, 1, 1, 1))

    def test_the_very_same_tariff_is_refused(self):
        check_refused(self, StandsAlready, with_tariff, (EARLY,), EARLY)
        check_refused(self, StandsAlready, with_tariff, ((0, 0, 0, 0, 0),), (0, 0, 0, 0, 0))

    def test_a_refusal_leaves_the_tariffs(self):
        tariffs = copy.deepcopy(ALL)
        check_refused(self, StandsAlready, with_tariff, tariffs, (20, 1, 1, 1, 1))
        self.assertEqual(tariffs, ALL)


class TariffOnTest(unittest.TestCase):
    def test_no_tariffs(self):
        self.assertIsNone(tariff_on((), 0))
        self.assertIsNone(tariff_on((), 2000))

    def test_a_day_ahead_of_all(self):
        self.assertIsNone(tariff_on(ALL, 0))
        self.assertIsNone(tariff_on(ALL, 9))

    def test_the_day_of_a_tariff(self):
        self.assertEqual(tariff_on(ALL, 10), EARLY)
        self.assertEqual(tariff_on(ALL, 20), MIDDLE)
        self.assertEqual(tariff_on(ALL, 30), LATE)
        self.assertEqual(tariff_on(((0, 1, 2, 3, 4),), 0), (0, 1, 2, 3, 4))

    def test_a_day_between(self):
        self.assertEqual(tariff_on(ALL, 11), EARLY)
        self.assertEqual(tariff_on(ALL, 19), EARLY)
        self.assertEqual(tariff_on(ALL, 29), MIDDLE)

    def test_a_day_behind_all(self):
        self.assertEqual(tariff_on(ALL, 31), LATE)
        self.assertEqual(tariff_on(ALL, 2000), LATE)

    def test_a_tuple_is_told_and_nothing_is_changed(self):
        tariffs = copy.deepcopy(ALL)
        self.assertIs(type(tariff_on(tariffs, 25)), tuple)
        self.assertEqual(tariffs, ALL)


class CostTest(unittest.TestCase):
    def check_cost(self, tariff, use, expected):
        told = cost(tariff, use)
        check_number(self, told)
        self.assertEqual(told, expected)

    def test_no_tariff(self):
        self.check_cost(None, 0, 0)
        self.check_cost(None, 10 ** 15, 0)

    def test_no_use_costs_the_standing_price(self):
        self.check_cost(EARLY, 0, 100)

    def test_below_the_limit(self):
        self.check_cost(EARLY, 4, 100 + 4 * 2)

    def test_at_the_limit(self):
        self.check_cost(EARLY, 5, 100 + 5 * 2)

    def test_above_the_limit(self):
        self.check_cost(EARLY, 6, 100 + 5 * 2 + 3)
        self.check_cost(EARLY, 15, 100 + 5 * 2 + 10 * 3)

    def test_a_limit_of_0(self):
        self.check_cost(MIDDLE, 0, 50)
        self.check_cost(MIDDLE, 7, 50 + 7)

    def test_a_tariff_of_nought(self):
        self.check_cost((0, 0, 0, 0, 0), 10 ** 15, 0)

    def test_great_numbers(self):
        price, limit, use = 10 ** 9, 10 ** 12, 10 ** 15
        self.check_cost(
            (0, price, price - 1, limit, price), use,
            price + limit * (price - 1) + (use - limit) * price)

    def test_the_day_costs_nothing(self):
        self.check_cost((2000, 1, 1, 1, 1), 1, 2)
        self.check_cost((0, 1, 1, 1, 1), 1, 2)

    def test_a_day_ahead_of_all_tariffs_costs_nothing(self):
        self.check_cost(tariff_on(ALL, 9), 1000, 0)
        self.check_cost(tariff_on(ALL, 10), 1000, 100 + 5 * 2 + 995 * 3)
