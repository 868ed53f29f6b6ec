"""How the tests ask: calls as rows of numbers, answers as one list a call."""

from strokehall.keyboard import answers

UP, DOWN = 0, 1
ALL_UP, FIRST_UP, BY_TIME = 0, 1, 2
BEGUN = [0]
REFUSED = [-1]
TOO_MANY_WAIT = [-3]
NOT_BEGUN = [-9]


def begin(left, middle, bar, labels, digits=None):
    if isinstance(labels, str):
        labels = [ord(label) for label in labels]
    if digits is None:
        digits = [0] * len(labels)
    return [0, left, middle, bar, len(labels), *labels, len(digits), *digits]


def policy(way, bounce, gap=1):
    return [1, way, bounce, gap]


def numbers_of(events):
    return [number for tick, key, down in events for number in (tick, 2 * key + down)]


def feed(now, *events):
    return feed_numbers(now, numbers_of(events))


def feed_numbers(now, numbers):
    return [2, now, len(numbers), *numbers]


def held():
    return [3]


def write(*outline):
    return [4, len(outline), *outline]


def read(text):
    text = list(text.encode() if isinstance(text, str) else text)
    return [5, len(text), *text]


def split(given):
    rows = []
    place = 0
    while place < len(given):
        end = place + 1 + given[place]
        rows.append(given[place + 1:end])
        place = end
    assert place == len(given)
    return rows


def ask(*calls):
    """What each call is answered, all asked of one object."""
    return split(answers([number for call in calls for number in call]))


def told(*strokes):
    """What a feed is answered that tells these strokes."""
    return [0, 2 * len(strokes), *[number for stroke in strokes for number in stroke]]


def outline(*chords):
    return [0, len(chords), *chords]


def text(written):
    written = list(written.encode())
    return [0, len(written), *written]


def fault(place):
    return [-2, place]


# The keyboard of the document's examples.
EXAMPLE = begin(3, 1, 1, "#STAPS", [0, 49, 50, 53, 0, 0])
# 0 # (bar), 1 k, 2 e-acute (2), 3 t (3), 4 o, 5 euro (5), 6 k (6), 7 U+1D11E; left 4, middle 2.
MIXED = begin(4, 2, 1, "#k\u00e9to\u20ack\U0001d11e", [0, 0, 50, 51, 0, 53, 54, 0])
# No bar: 0 a, 1 b, 2 x, 3 a, 4 c; left 2, middle 1.
PLAIN = begin(2, 1, 0, "abxac")
