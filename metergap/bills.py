"""What is owed up to a day, and bills, of which later ones set right those ahead."""

from metergap.days import uses
from metergap.errors import NoMeter, NotLater
from metergap.tariffs import cost, tariff_on


def owed(history, most, tariffs, day):
    """The costs of all days from the first entry's on that are ahead of the day."""
    if not history:
        raise NoMeter("no meter is there yet")
    begin = history[0][1]
    used = uses(history, most, begin, day)
    return sum(cost(tariff_on(tariffs, begin + at), use) for at, use in enumerate(used))


def billed(bills):
    """The sum of all amounts."""
    return sum(bill[1] for bill in bills)


def with_bill(history, most, tariffs, bills, day):
    """The bills and one more, up to the day; a credit has an amount below nought."""
    # That there is no meter is told ahead of the day's being too early.
    due = owed(history, most, tariffs, day)
    if bills and day < bills[-1][0]:
        raise NotLater(f"day {day} is ahead of the last bill's day {bills[-1][0]}")
    return bills + ((day, due - billed(bills)),)
