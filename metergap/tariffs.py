"""Tariffs by rising days, and what a day costs."""

from metergap.errors import StandsAlready


def with_tariff(tariffs, tariff):
    """The tariffs and one more, put in its place by its day."""
    day = tariff[0]
    if any(told[0] == day for told in tariffs):
        raise StandsAlready(f"a tariff of day {day} is there already")
    return tuple(sorted(tariffs + (tariff,), key=lambda told: told[0]))


def tariff_on(tariffs, day):
    """The tariff of the day, or None ahead of all tariffs."""
    found = None
    for tariff in tariffs:
        if tariff[0] <= day:
            found = tariff
    return found


def cost(tariff, use):
    """What a day of that use costs by the tariff, which may be None."""
    if tariff is None:
        return 0
    _, standing, low, limit, high = tariff
    within = min(use, limit)
    return standing + low * within + high * (use - within)
