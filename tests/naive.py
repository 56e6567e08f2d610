"""The document's points 3 to 15 written down once more, slowly and in other ways.

Nothing of the program is used here, so that both can be compared.
"""


def steps_between(size, one, other):
    """By the words of the document: number after number, 0 behind the greatest."""
    steps = 0
    while one != other:
        one = 0 if one + 1 == size else one + 1
        steps += 1
    return steps


def meter_at(history, place):
    """The size of the meter behind the entry there, and the value that entry has for it."""
    size = None
    for entry in history[:place + 1]:
        if entry[0] == "start":
            size, value = entry[2], entry[3]
        elif entry[0] == "change":
            size, value = entry[3], entry[4]
        else:
            value = entry[2]
    return size, value


def gone_to(history, ahead, place):
    size, value = meter_at(history, ahead)
    return steps_between(size, value, history[place][2])


def counting(history, most):
    """The places of the entries that count, worked out from the end backwards."""
    if not history:
        return []
    ahead = counting(history[:-1], most)
    entry = history[-1]
    place = len(history) - 1
    if entry[0] == "read":
        if entry[3]:
            return ahead
        allowed = sum(most for _ in range(history[ahead[-1]][1], entry[1]))
        if gone_to(history, ahead[-1], place) > allowed:
            return ahead
    return ahead + [place]


def pairs(history, most):
    places = counting(history, most)
    return [
        (history[one][1], history[other][1], gone_to(history, one, other))
        for one, other in zip(places, places[1:])
    ]


def day_use(history, most, day):
    told = pairs(history, most)
    for begin, end, use in told:
        if begin <= day < end:
            # What the days up to this one have, less what those ahead of it have.
            days = end - begin
            return divmod((day + 1 - begin) * use, days)[0] - divmod((day - begin) * use, days)[0]
    if told and day >= told[-1][1]:
        begin, end, use = told[-1]
        return divmod(use, end - begin)[0]
    return 0


def day_cost(tariffs, day, use):
    told = [row for row in tariffs if row[0] <= day]
    if not told:
        return 0
    _, standing, low, limit, high = max(told)
    return standing + sum(low if unit <= limit else high for unit in range(1, use + 1))


def due(history, most, tariffs, day):
    if not history:
        return None
    days = range(history[0][1], day)
    return sum(day_cost(tariffs, each, day_use(history, most, each)) for each in days)


def answer(most, history, tariffs, bills, deed):
    """The answer to a deed; the three lists are changed as it says."""
    kind, parts = deed[0], list(deed[1:])
    size = meter_at(history, len(history) - 1)[0] if history else None
    if kind == "start":
        if history:
            return "there already"
        if parts[2] >= parts[1]:
            return "no value"
    if kind in ("read", "change"):
        if not history:
            return "no meter"
        if history[-1][1] >= parts[0]:
            return "not later"
        if parts[1] >= size or kind == "change" and parts[3] >= parts[2]:
            return "no value"
    if kind in ("start", "change"):
        history.append(deed)
        return "done"
    if kind == "read":
        history.append(deed + (False,))
        return "counts" if len(history) - 1 in counting(history, most) else "doubted"
    if kind == "strike":
        for place, entry in enumerate(history):
            if entry[:2] == ("read", parts[0]) and entry[3] is False:
                history[place] = entry[:3] + (True,)
                return "done"
        return "no reading"
    if kind == "tariff":
        if parts[0] in [row[0] for row in tariffs]:
            return "there already"
        tariffs.append(deed[1:])
        tariffs.sort()
        return "done"
    if kind == "use":
        return day_use(history, most, parts[0])
    if not history:
        return "no meter"
    if kind == "bill":
        if bills and bills[-1][0] > parts[0]:
            return "not later"
        amount = due(history, most, tariffs, parts[0])
        for _, ahead in bills:
            amount -= ahead
        bills.append((parts[0], amount))
        return amount
    return due(history, most, tariffs, parts[0])


def naive_play(most, deeds):
    history, tariffs, bills = [], [], []
    answers = [answer(most, history, tariffs, bills, deed) for deed in deeds]
    return answers, (tuple(history), tuple(tariffs), tuple(bills))
