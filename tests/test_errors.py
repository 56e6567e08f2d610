import unittest

from metergap.errors import MeterError
from tests.helper import REFUSALS


class ErrorsTest(unittest.TestCase):
    def test_any_refusal_is_a_value_error(self):
        self.assertEqual(MeterError.__bases__, (ValueError,))

    def test_each_refusal_stands_straight_under_meter_error(self):
        for refusal in REFUSALS:
            self.assertEqual(refusal.__bases__, (MeterError,))

    def test_names_and_file(self):
        names = [refusal.__name__ for refusal in REFUSALS]
        self.assertEqual(
            names, ["NoMeter", "StandsAlready", "NotLater", "NoValue", "NoReading"])
        for refusal in (MeterError,) + REFUSALS:
            self.assertEqual(refusal.__module__, "metergap.errors")

    def test_none_is_caught_as_another(self):
        for one in REFUSALS:
            for other in REFUSALS:
                self.assertEqual(issubclass(one, other), one is other)

    def test_a_refusal_keeps_its_words(self):
        for refusal in REFUSALS:
            self.assertEqual(str(refusal("why")), "why")
