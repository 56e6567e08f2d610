import unittest

from metergap.bills import billed, owed, with_bill
from metergap.errors import NoMeter, NotLater
from metergap.histories import read_on, struck
from metergap.tariffs import with_tariff
from tests.helper import check_number, check_refused, check_tuples, told_by

START = ("start", 5, 1000, 990)
# Uses from day 5 on: 2, 3, 2, 3 and then 2 for each day.
HISTORY = (START, ("read", 9, 0, False))
FLAT = ((0, 0, 1, 10 ** 12, 0),)
# A day costs 100, and 10 for each of the first two units, 1 for each beyond.
STEPPED = ((0, 100, 10, 2, 1),)


class OwedTest(unittest.TestCase):
    def check(self, history, most, tariffs, day, expected):
        told = told_by(self, owed, history, most, tariffs, day)
        check_number(self, told)
        self.assertEqual(told, expected)

    def test_without_an_entry(self):
        for tariffs in ((), FLAT):
            for day in (0, 1, 2000):
                check_refused(self, NoMeter, owed, (), 10, tariffs, day)

    def test_ahead_of_the_first_entry_and_on_its_day(self):
        for day in (0, 4, 5):
            self.check(HISTORY, 10, STEPPED, day, 0)
            self.check((START,), 10, STEPPED, day, 0)

    def test_day_by_day(self):
        for day, amount in ((6, 2), (7, 5), (8, 7), (9, 10), (10, 12), (11, 14), (30, 52)):
            self.check(HISTORY, 10, FLAT, day, amount)

    def test_uses_up_to_the_limit_and_above_it(self):
        for day, amount in ((6, 120), (7, 241), (8, 361), (9, 482), (10, 602)):
            self.check(HISTORY, 10, STEPPED, day, amount)

    def test_the_limit_is_for_each_day_alone(self):
        self.check(HISTORY, 10, ((0, 0, 0, 3, 1),), 100, 0)
        self.check(HISTORY, 10, ((0, 0, 0, 2, 1),), 100, 2)
        self.check(HISTORY, 10, ((0, 0, 0, 0, 1),), 9, 10)

    def test_a_start_alone_costs_what_stands(self):
        self.check((START,), 10, STEPPED, 8, 300)
        self.check((START,), 10, FLAT, 8, 0)

    def test_no_tariffs(self):
        for day in (0, 5, 9, 2000):
            self.check(HISTORY, 10, (), day, 0)

    def test_days_ahead_of_the_first_tariff_cost_nothing(self):
        later = ((8, 100, 10, 2, 1),)
        for day, amount in ((7, 0), (8, 0), (9, 121), (10, 241)):
            self.check(HISTORY, 10, later, day, amount)

    def test_each_day_by_its_own_tariff(self):
        tariffs = ((2, 0, 1, 10, 0), (6, 50, 0, 0, 0), (8, 0, 2, 1, 3), (100, 9, 9, 9, 9))
        for day, amount in ((6, 2), (7, 52), (8, 102), (9, 110), (10, 115)):
            self.check(HISTORY, 10, tariffs, day, amount)

    def test_a_doubted_and_a_struck_reading(self):
        doubted = (START, ("read", 9, 900, False))
        self.check(doubted, 10, STEPPED, 8, 300)
        self.check(doubted, 1000, FLAT, 9, 910)
        self.check(struck(HISTORY, 9), 10, STEPPED, 8, 300)

    def test_a_change(self):
        history = (START, ("change", 7, 20, 10, 9), ("read", 9, 1, False))
        self.check(history, 1, FLAT, 7, 30)
        self.check(history, 1, FLAT, 8, 31)
        self.check(history, 1, FLAT, 20, 43)

    def test_at_the_bounds(self):
        great, dear = 10 ** 12, 10 ** 9
        history = (("start", 0, great, 1), ("read", 1, 0, False))
        tariffs = ((0, dear, dear, great, dear),)
        self.check(history, great, tariffs, 2000, 2000 * dear * great)
        day_uses_above = ((0, 0, 0, great - 2, dear),)
        self.check(history, great, day_uses_above, 2000, 2000 * dear)
        self.check(history, great, ((2000, 1, 1, 1, 1),), 2000, 0)
        self.check((("start", 2000, great, 1),), great, tariffs, 2000, 0)


class BilledTest(unittest.TestCase):
    def check(self, bills, expected):
        told = told_by(self, billed, bills)
        check_number(self, told)
        self.assertEqual(told, expected)

    def test_no_bills(self):
        self.check((), 0)

    def test_amounts_and_credits(self):
        self.check(((900, 7),), 7)
        self.check(((900, -7),), -7)
        self.check(((0, 0), (3, 100), (3, -30), (2000, 5)), 75)
        self.check(((0, 10 ** 24), (1, -10 ** 24)), 0)


class WithBillTest(unittest.TestCase):
    def check(self, history, most, tariffs, bills, day, amount):
        told = told_by(self, with_bill, history, most, tariffs, bills, day)
        check_tuples(self, told)
        self.assertEqual(told, bills + ((day, amount),))
        self.assertEqual(billed(told), owed(history, most, tariffs, day))

    def check_no(self, kind, history, bills, day):
        check_refused(self, kind, with_bill, history, 10, FLAT, bills, day)

    def test_the_first_bill(self):
        self.check(HISTORY, 10, FLAT, (), 9, 10)
        self.check(HISTORY, 10, STEPPED, (), 7, 241)
        self.check(HISTORY, 10, (), (), 2000, 0)

    def test_ahead_of_the_first_entry_and_on_its_day(self):
        for day in (0, 4, 5):
            self.check(HISTORY, 10, STEPPED, (), day, 0)
        self.check(HISTORY, 10, STEPPED, ((2, 0),), 4, 0)

    def test_bills_behind_bills(self):
        self.check(HISTORY, 10, FLAT, ((7, 5),), 9, 5)
        self.check(HISTORY, 10, FLAT, ((7, 5), (9, 5)), 11, 4)

    def test_all_amounts_ahead_are_taken_off(self):
        self.check(HISTORY, 10, FLAT, ((5, 100), (6, -40), (7, 9)), 9, 10 - 69)

    def test_the_same_day_again(self):
        self.check(HISTORY, 10, FLAT, ((9, 10),), 9, 0)
        self.check(HISTORY, 10, FLAT, ((9, 4),), 9, 6)
        self.check(HISTORY, 10, FLAT, ((9, 10), (9, 0)), 9, 0)

    def test_a_credit(self):
        self.check(HISTORY, 10, FLAT, ((7, 50),), 9, -40)
        self.check((START,), 10, FLAT, ((9, 10),), 9, -10)

    def test_without_an_entry(self):
        for day in (0, 5, 2000):
            self.check_no(NoMeter, (), (), day)

    def test_without_an_entry_and_ahead_of_the_last_bill(self):
        for day in (0, 8, 9, 10):
            self.check_no(NoMeter, (), ((9, 10),), day)

    def test_ahead_of_the_last_bill(self):
        for day in (0, 5, 8):
            self.check_no(NotLater, HISTORY, ((9, 10),), day)
            self.check_no(NotLater, HISTORY, ((3, 0), (9, 10)), day)
        self.check_no(NotLater, (START,), ((2000, 0),), 1999)

    def test_ahead_of_the_last_bill_and_of_the_first_entry(self):
        self.check_no(NotLater, HISTORY, ((4, 0),), 3)

    def test_a_bill_may_be_ahead_of_entries_and_tariffs(self):
        self.check(HISTORY, 10, ((20, 1, 1, 1, 1),), (), 7, 0)
        self.check(HISTORY, 10, FLAT, ((1, 0),), 6, 2)

    def test_at_the_bounds(self):
        great, dear = 10 ** 12, 10 ** 9
        history = (("start", 0, great, 1), ("read", 1, 0, False))
        tariffs = ((0, dear, dear, great, dear),)
        self.check(history, great, tariffs, (), 2000, 2000 * dear * great)
        self.check(struck(history, 1), great, tariffs, ((2000, 2000 * dear * great),), 2000,
                   2000 * dear - 2000 * dear * great)


class SetRightTest(unittest.TestCase):
    def check_bills(self, states, amounts):
        """One bill for each state of history, tariffs and day, all from most of 10."""
        bills = ()
        for (history, tariffs, day), amount in zip(states, amounts):
            bills = with_bill(history, 10, tariffs, bills, day)
            self.assertEqual(bills[-1], (day, amount))
            self.assertEqual(billed(bills), owed(history, 10, tariffs, day))
        self.assertEqual([bill[1] for bill in bills], amounts)

    def test_a_guess(self):
        later = read_on(HISTORY, 19, 100)
        self.check_bills([(HISTORY, FLAT, 19), (later, FLAT, 19)], [30, 80])
        later = read_on(HISTORY, 19, 5)
        self.check_bills([(HISTORY, FLAT, 19), (later, FLAT, 19)], [30, -15])

    def test_a_reading_that_is_struck_since(self):
        wrong = read_on(HISTORY, 11, 20)
        right = struck(wrong, 11)
        self.check_bills([(HISTORY, FLAT, 9), (wrong, FLAT, 11), (right, FLAT, 11),
                          (right, FLAT, 12)], [10, 20, -16, 2])

    def test_a_reading_that_is_struck_makes_another_one_count(self):
        wrong = read_on(read_on(HISTORY, 11, 20), 14, 15)
        right = struck(wrong, 11)
        self.check_bills([(wrong, FLAT, 14), (right, FLAT, 14)], [60, -35])

    def test_a_tariff_told_later(self):
        later = with_tariff(FLAT, (7, 3, 0, 0, 2))
        self.check_bills([(HISTORY, FLAT, 9), (HISTORY, later, 9), (HISTORY, later, 10)],
                         [10, 11, 7])

    def test_a_tariff_told_later_ahead_of_all_entries(self):
        self.check_bills([(HISTORY, (), 9), (HISTORY, STEPPED, 9), (HISTORY, STEPPED, 9)],
                         [0, 482, 0])
