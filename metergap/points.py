"""Which entries of a history count, and what went through between them."""

from metergap.turning import gone


def points(history, most):
    """The places of the entries that count."""
    found = []
    standing = None
    for place, entry in enumerate(history):
        if is_counting(standing, entry, most):
            found.append(place)
            standing = standing_behind(standing, entry)
    return found


def spans(history, most):
    """A day, a later day and the use between, for each two entries that count."""
    found = []
    standing = None
    for place in points(history, most):
        entry = history[place]
        if standing is not None:
            found.append((standing[0], entry[1], use_since(standing, entry)))
        standing = standing_behind(standing, entry)
    return found


def is_counting(standing, entry, most):
    """Whether the entry counts, by what stands there behind the last one that counts."""
    if entry[0] != "read":
        return True
    if entry[3]:
        return False
    return use_since(standing, entry) <= most * (entry[1] - standing[0])


def standing_behind(standing, entry):
    """Behind an entry that counts: its day, the meter's size, and the value it shows."""
    match entry:
        case ("start", day, size, value):
            return day, size, value
        case ("change", day, _, size, first):
            return day, size, first
        case ("read", day, value, _):
            # A reading leaves the meter that stood there, so its size goes on.
            return day, standing[1], value


def use_since(standing, entry):
    """What went through until a reading or a change."""
    # Third stands what was read, or what the old meter showed last.
    return gone(standing[1], standing[2], entry[2])
