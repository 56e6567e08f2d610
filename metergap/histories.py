"""Histories of meters: put there, read, changed, and readings struck."""

from metergap.errors import NoMeter, NoReading, NotLater, NoValue, StandsAlready


def begun(history, day, size, value):
    """The history of a meter that is put there and shows the value."""
    if history:
        raise StandsAlready("the history has begun already")
    check_value(size, value)
    return (("start", day, size, value),)


def read_on(history, day, value):
    """The history and a reading of the meter that stands there."""
    check_day(history, day)
    check_value(size_now(history), value)
    return history + (("read", day, value, False),)


def changed_on(history, day, last, size, first):
    """The history and a change of the meter for another one of that size."""
    check_day(history, day)
    check_value(size_now(history), last)
    check_value(size, first)
    return history + (("change", day, last, size, first),)


def struck(history, day):
    """The history with the reading of that day struck."""
    for place, entry in enumerate(history):
        if is_standing_reading(entry) and entry[1] == day:
            changed = ("read", day, entry[2], True)
            return history[:place] + (changed,) + history[place + 1:]
    raise NoReading(f"no reading of day {day} can be struck")


def size_at(history, place):
    """The size of the meter that stands there behind the entry at the place."""
    at = place
    while history[at][0] == "read":
        at -= 1
    entry = history[at]
    return entry[2] if entry[0] == "start" else entry[3]


def size_now(history):
    """The size of the meter that stands there behind all entries."""
    return size_at(history, len(history) - 1)


def is_standing_reading(entry):
    """Whether the entry is a reading that isn't struck."""
    return entry[0] == "read" and not entry[3]


def check_day(history, day):
    """Refuse an entry where no meter is, or of a day that isn't behind the last entry's."""
    if not history:
        raise NoMeter("no meter is there yet")
    # A struck reading stands in the history still, so its day is taken, too.
    latest = history[-1][1]
    if day <= latest:
        raise NotLater(f"day {day} isn't behind day {latest}")


def check_value(size, value):
    """Refuse a value that a meter of that size doesn't show."""
    if value >= size:
        raise NoValue(f"a meter of size {size} doesn't show {value}")
