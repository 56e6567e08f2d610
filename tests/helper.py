"""What several tests need: how refusals and plain values are checked, and made-up chance."""

import copy

from metergap.errors import (
    MeterError, NoMeter, NoReading, NotLater, NoValue, StandsAlready,
)

REFUSALS = (NoMeter, StandsAlready, NotLater, NoValue, NoReading)


def check_refused(case, kind, action, *args):
    """The call is refused by that class, and by none of the other four."""
    for caught_as in (kind, MeterError, ValueError):
        with case.assertRaises(caught_as) as caught:
            action(*args)
        for refusal in REFUSALS:
            case.assertEqual(isinstance(caught.exception, refusal), refusal is kind)


def check_number(case, value):
    case.assertIs(type(value), int)


def check_tuples(case, rows):
    """A tuple of tuples of whole numbers and words; no truth but a reading's last part."""
    case.assertIs(type(rows), tuple)
    for row in rows:
        case.assertIs(type(row), tuple)
        plain = row
        if row[0] == "read":
            case.assertIs(type(row[3]), bool)
            plain = row[:3]
        for part in plain:
            case.assertIn(type(part), (int, str))


def told_by(case, action, *args):
    """What the call tells; what was handed in stays as it was."""
    before = copy.deepcopy(args)
    told = action(*args)
    case.assertEqual(args, before)
    return told


def check_number_list(case, told):
    case.assertIs(type(told), list)
    for value in told:
        check_number(case, value)


class Dice:
    """Numbers that look like chance, and are the same in each run."""

    def __init__(self, seed):
        self.state = seed

    def below(self, many):
        self.state = (self.state * 6364136223846793005 + 1442695040888963407) % 2 ** 64
        return (self.state >> 33) % many

    def one_of(self, choices):
        return choices[self.below(len(choices))]
