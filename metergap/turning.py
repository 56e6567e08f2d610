"""What goes through a meter that turns over, and how it is shared out over days."""


def gone(size, one, other):
    """The least use by which the meter goes on from one value to the other."""
    return (other - one) % size


def shown_then(size, value, use):
    """What a meter that shows the value shows behind the use."""
    return (value + use) % size


def share(use, days, at):
    """The share of the day at, from 0, of a use over so many days."""
    return use_ahead(use, days, at + 1) - use_ahead(use, days, at)


def use_ahead(use, days, at):
    """What the days ahead of the day at have together."""
    return at * use // days
