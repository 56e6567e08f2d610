"""What goes through on a day, and up to which day it is known."""

from metergap.points import points, spans
from metergap.turning import share


def use_on(history, most, day):
    """What goes through on the day."""
    return uses(history, most, day, day + 1)[0]


def uses(history, most, low, high):
    """What goes through on each day from low on, below high."""
    told = spans(history, most)
    found = []
    at = 0
    for day in range(low, high):
        while at < len(told) and told[at][1] <= day:
            at += 1
        found.append(use_by(told, at, day))
    return found


def known_to(history, most):
    """The day of the last entry that counts, or 0 of an empty history."""
    places = points(history, most)
    return history[places[-1]][1] if places else 0


def use_by(told, at, day):
    """The use of a day ahead of all spans, in the span at that place, or behind all."""
    if not told or day < told[0][0]:
        return 0
    if at < len(told):
        first, later, use = told[at]
        return share(use, later - first, day - first)
    first, later, use = told[-1]
    return use // (later - first)
