"""What several tests need: how refusals and plain values are checked."""

from metergap.errors import (
    MeterError, NoMeter, NoReading, NotLater, NoValue, StandsAlready,
)

REFUSALS = (NoMeter, StandsAlready, NotLater, NoValue, NoReading)


def check_refused(case, kind, action, *args):
    """The call is refused by that class, and by none of the other four."""
    for caught_as in (kind, MeterError, ValueError):
        with case.assertRaises(caught_as) as caught:
            action(*args)
        for refusal in REFUSALS:
            case.assertEqual(isinstance(caught.exception, refusal), refusal is kind)


def check_number(case, value):
    case.assertIs(type(value), int)


def check_tuples(case, rows):
    """A tuple of tuples of whole numbers and words; no truth but a reading's last part."""
    case.assertIs(type(rows), tuple)
    for row in rows:
        case.assertIs(type(row), tuple)
        plain = row
        if row[0] == "read":
            case.assertIs(type(row[3]), bool)
            plain = row[:3]
        for part in plain:
            case.assertIn(type(part), (int, str))
