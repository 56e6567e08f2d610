"""Plays: deeds done in order, and the answers to them."""

from metergap.bills import owed, with_bill
from metergap.days import known_to, use_on
from metergap.errors import NoMeter, NoReading, NotLater, NoValue, StandsAlready
from metergap.histories import begun, changed_on, read_on, struck
from metergap.tariffs import with_tariff


def play(most, deeds):
    """The answers to the deeds, done in order, and the state in the end."""
    answers = []
    state = ((), (), ())
    for deed in deeds:
        answer, state = answer_to(most, state, deed)
        answers.append(answer)
    return answers, state


def answer_to(most, state, deed):
    """The answer to the deed, and the state behind it."""
    try:
        return do_deed(most, state, deed)
    except NoMeter:
        return "no meter", state
    except StandsAlready:
        return "there already", state
    except NotLater:
        return "not later", state
    except NoValue:
        return "no value", state
    except NoReading:
        return "no reading", state


def do_deed(most, state, deed):
    """The answer to the deed, and the state behind it, where the deed isn't refused."""
    history, tariffs, bills = state
    match deed:
        case ("start", day, size, value):
            return "done", (begun(history, day, size, value), tariffs, bills)
        case ("read", day, value):
            longer = read_on(history, day, value)
            # No other entry is of that day, so it is known if the reading counts.
            answer = "counts" if known_to(longer, most) == day else "doubted"
            return answer, (longer, tariffs, bills)
        case ("change", day, last, size, first):
            return "done", (changed_on(history, day, last, size, first), tariffs, bills)
        case ("strike", day):
            return "done", (struck(history, day), tariffs, bills)
        case ("tariff", day, standing, low, limit, high):
            tariff = (day, standing, low, limit, high)
            return "done", (history, with_tariff(tariffs, tariff), bills)
        case ("bill", day):
            more = with_bill(history, most, tariffs, bills, day)
            return more[-1][1], (history, tariffs, more)
        case ("use", day):
            return use_on(history, most, day), state
        case ("owed", day):
            return owed(history, most, tariffs, day), state
