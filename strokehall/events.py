"""Rows of events, two numbers each: a tick; twice the key, one more if it's down."""

from strokehall.rows import counted


def in_order(events, earliest):
    """Whether a row is of whole events whose ticks don't fall, none below an earliest one."""
    if len(events) % 2 == 1:
        return False
    last = earliest
    for place in range(0, len(events), 2):
        if events[place] < last:
            return False
        last = events[place]
    return True


def merged(first, second):
    """Two rows of events as one: by ticks, the first row's first where they're the same."""
    both = []
    place = 0
    for other in range(0, len(second), 2):
        while place < len(first) and first[place] <= second[other]:
            both.extend(first[place:place + 2])
            place += 2
        both.extend(second[other:other + 2])
    return both + first[place:]


def merge(first, second):
    """What the call merge is answered."""
    # Never too many events: the list of all calls is shorter than that.
    if not in_order(first, 0) or not in_order(second, 0):
        return [-1]
    return [0] + counted(merged(first, second))
