"""How the tests ask: calls as rows of numbers, answers as one list a call."""

import binascii

from strokehall.keyboard import answers

UP, DOWN = 0, 1
ALL_UP, FIRST_UP, BY_TIME = 0, 1, 2
BEGUN = [0]
REFUSED = [-1]
TOO_MANY_WAIT = [-3]
NOT_BEGUN = [-9]
PLAIN_LINE, NUMBERED_LINE = 0, 1


def begin(left, middle, bar, labels, digits=None):
    if isinstance(labels, str):
        labels = [ord(label) for label in labels]
    if digits is None:
        digits = [0] * len(labels)
    return [0, left, middle, bar, len(labels), *labels, len(digits), *digits]


def policy(way, bounce, gap=1):
    return [1, way, bounce, gap]


def numbers_of(events):
    return [number for tick, key, down in events for number in (tick, 2 * key + down)]


def feed(now, *events):
    return feed_numbers(now, numbers_of(events))


def feed_numbers(now, numbers):
    return [2, now, len(numbers), *numbers]


def held():
    return [3]


def write(*outline):
    return [4, len(outline), *outline]


def read(text):
    text = list(text.encode() if isinstance(text, str) else text)
    return [5, len(text), *text]


def merge(first, second):
    return [6, len(first), *first, len(second), *second]


def send(chord):
    return [7, chord]


def frame(number, ticks, chord):
    return [8, number, ticks, chord]


def line(which):
    return [9, which]


def take(some):
    return [10, len(some), *some]


def split(given):
    rows = []
    place = 0
    while place < len(given):
        end = place + 1 + given[place]
        rows.append(given[place + 1:end])
        place = end
    assert place == len(given)
    return rows


def ask(*calls):
    """What each call is answered, all asked of one object."""
    numbers = [number for call in calls for number in call]
    assert 1 <= len(calls) <= 300 and len(numbers) <= 19000
    return split(answers(numbers))


def counted(row):
    """What a call is answered that's told a row of numbers."""
    return [0, len(row), *row]


def told(*strokes):
    """What a feed is answered that tells these strokes."""
    return counted([number for stroke in strokes for number in stroke])


def outline(*chords):
    return counted(chords)


def text(written):
    return counted(list(written.encode()))


def fault(place):
    return [-2, place]


def taken(chord, ticks=0, lost=0):
    """A chord that's received."""
    return (0, chord, ticks, lost)


def bad(kind, place):
    """A fault that's received."""
    return (kind, place, 0, 0)


def received(*found):
    """What a take is answered by which these are received."""
    return counted([number for one in found for number in one])


def packet_bytes(chord):
    """A packet, written out of the chord's bits as a text."""
    bits = f"{chord:048b}"
    first = 128 + 64 * (bits.count("1") % 2) + int(bits[:6], 2)
    return [first] + [int(bits[place:place + 7], 2) for place in range(6, 48, 7)]


def ticks_bytes(ticks):
    count = max(1, (ticks.bit_length() + 6) // 7)
    return [ticks >> 7 * place & 127 | 128 for place in range(count - 1)] + [ticks >> 7 * (count - 1)]


def checked(row):
    """A body whose check is right."""
    return [*row, *binascii.crc_hqx(bytes(row), 0xFFFF).to_bytes(2, "big")]


def body_bytes(number, ticks, chord):
    return checked([number, *ticks_bytes(ticks), *chord.to_bytes(6, "little")])


def framed(body):
    """A frame with a body, whatever it holds."""
    return [2, *[one for byte in body for one in ([16, byte ^ 32] if byte in (2, 3, 16) else [byte])], 3]


def frame_bytes(number, ticks, chord):
    return framed(body_bytes(number, ticks, chord))


# The keyboard of the document's examples.
EXAMPLE = begin(3, 1, 1, "#STAPS", [0, 49, 50, 53, 0, 0])
# 0 # (bar), 1 k, 2 e-acute (2), 3 t (3), 4 o, 5 euro (5), 6 k (6), 7 U+1D11E; left 4, middle 2.
MIXED = begin(4, 2, 1, "#k\u00e9to\u20ack\U0001d11e", [0, 0, 50, 51, 0, 53, 54, 0])
# All 48 keys that a keyboard may have, and but one.
WIDE = begin(16, 16, 0, [number for number in range(0x100, 0x130)])
NARROW = begin(0, 0, 0, "z")
# No bar: 0 a, 1 b, 2 x, 3 a, 4 c; left 2, middle 1.
PLAIN = begin(2, 1, 0, "abxac")
