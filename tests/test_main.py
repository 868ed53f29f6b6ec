"""MAIN: sequences of all eleven calls, each answer as the document asks. The document's words are taken here once more,
as plainly as they stand: over all news and all bytes at once, and over all texts that a keyboard has.
"""

import random
import unittest

from asking import (NOT_BEGUN, REFUSED, TOO_MANY_WAIT, ask, begin, counted, feed_numbers, frame, frame_bytes, held, line,
                    merge, outline, packet_bytes, policy, read, send, take, told, write)
from test_line_promises import found_of, some_bytes
from test_outlines import place_of_fault
from test_promises import certain_of, strokes_of

BUILDERS = {"begin": begin, "policy": policy, "feed": feed_numbers, "held": held, "write": write, "read": read,
            "merge": merge, "send": send, "frame": frame, "line": line, "take": take}

KEYBOARDS = (
    (3, 1, 1, [35, 83, 84, 65, 80, 83], [0, 49, 50, 53, 0, 0]),
    (2, 1, 0, [97, 98, 120, 97, 99], [0] * 5),
    (2, 1, 1, [35, 112, 109, 113, 0x1D11E], [0, 51, 0, 49, 50]),
    (0, 0, 0, [122], [0]),
    (1, 0, 1, [35, 0xE9, 0xEA], [0, 0, 57]),
)
NO_KEYBOARDS = (
    (2, 0, 0, [97, 97], [0, 0]), (1, 0, 0, [97], []), (1, 0, 2, [97], [0]), (2, 1, 0, [97, 98], [0, 0]),
    (0, 0, 1, [35], [0]), (1, 0, 1, [97], [0]), (0, 0, 0, [], []), (1, 0, 0, [97], [49]), (1, 0, 1, [35], [49]),
    (1, 1, 0, [97, 98, 98], [0, 0, 0]), (3, 0, 1, [35, 97, 98], [0, 49, 49]), (1, 0, 0, [45], [0]),
    (1, 0, 0, [0xD800], [0]), (0, 0, 0, [48 + place for place in range(49)], [0] * 49), (1, 0, 0, [0x110000], [0]),
)
ALONE = ("merge", "send", "frame")


def text_of(keyboard, chord):
    left, middle, bar, labels, digits = keyboard
    keys = [key for key in range(len(labels)) if chord & 2**key]
    shifted = bar == 1 and 0 in keys and sum(digits[key] for key in keys) > 0
    banks = ["", "", ""]
    for key in keys:
        mark = chr(digits[key]) if shifted and digits[key] else chr(labels[key])
        if not (shifted and key == 0):
            banks[(key >= left) + (key >= left + middle)] += mark
    has_middle = any(left <= key < left + middle for key in keys)
    return (banks[0] + banks[1] + ("-" if banks[2] and not has_middle else "") + banks[2]).encode()


def rises(ticks):
    return all(before <= behind for before, behind in zip(ticks, ticks[1:]))


class Model:
    """What the document says of each call, with all that came kept."""

    def __init__(self):
        self.keyboard = None

    def answer(self, name, args):
        if self.keyboard is None and name not in ("begin",) + ALONE:
            return NOT_BEGUN
        return getattr(self, name)(*args)

    def begin(self, *keyboard):
        if keyboard in NO_KEYBOARDS:
            return REFUSED
        self.keyboard = keyboard
        self.size = len(keyboard[3])
        self.texts = {text_of(keyboard, chord): chord for chord in range(1, 2**self.size)}
        self.now = 0
        self.policy(0, 0, 1)
        return self.line(0)

    def policy(self, way, bounce, gap):
        if way not in (0, 1, 2) or bounce not in range(1001) or gap not in range(1, 10001):
            return REFUSED
        self.rule, self.news, self.count = (way, bounce, gap), [], 0
        return [0]

    def feed(self, now, numbers):
        ticks, keys = numbers[::2], [code >> 1 for code in numbers[1::2]]
        if len(numbers) % 2 or len(numbers) > 8192 or not rises([self.now, *ticks, now]) or now >= 2**40:
            return REFUSED
        if any(key >= self.size for key in keys):
            return REFUSED
        news = self.news + [(tick, key, code & 1) for tick, key, code in zip(ticks, keys, numbers[1::2])]
        if certain_of(news, now, self.rule[1])[2] > 1024:
            return TOO_MANY_WAIT
        self.now, self.news = now, news
        strokes = strokes_of(self.rule, news, now)
        before, self.count = self.count, len(strokes)
        return told(*strokes[before:])

    def held(self):
        return [0, sum(2**key for key in range(self.size) if [one[2] for one in self.news if one[1] == key][-1:] == [1])]

    def write(self, *chords):
        if not 1 <= len(chords) <= 10 or any(chord not in range(1, 2**self.size) for chord in chords):
            return REFUSED
        return counted(list(b"/".join(text_of(self.keyboard, chord) for chord in chords)))

    def read(self, text):
        if len(text) > 4096:
            return REFUSED
        parts = text.split(b"/")
        if len(parts) <= 10 and all(part in self.texts for part in parts):
            return outline(*[self.texts[part] for part in parts])
        return [-2, place_of_fault(self.texts, text)]

    def merge(self, first, second):
        if len(first) % 2 or len(second) % 2 or not rises(first[::2]) or not rises(second[::2]):
            return REFUSED
        events = [row[place:place + 2] for row in (first, second) for place in range(0, len(row), 2)]
        return counted([number for event in sorted(events, key=lambda event: event[0]) for number in event])

    def send(self, chord):
        return counted(packet_bytes(chord)) if chord in range(1, 2**48) else REFUSED

    def frame(self, number, ticks, chord):
        if number > 255 or ticks >= 2**28 or chord not in range(1, 2**48):
            return REFUSED
        return counted(frame_bytes(number, ticks, chord))

    def line(self, which):
        if which not in (0, 1):
            return REFUSED
        self.which, self.bytes, self.found = which, [], 0
        return [0]

    def take(self, some):
        self.bytes = self.bytes + some
        found = found_of(self.which, self.size, self.bytes)
        before, self.found = self.found, len(found)
        return counted([number for one in found[before:] for number in one])


class Asker:
    """Some call after another, most of them such that they're not refused."""

    def __init__(self, source):
        self.source = source
        self.model = Model()
        self.number = source.randrange(256)
        self.rest = []

    def size(self):
        return 6 if self.model.keyboard is None else self.model.size

    def now(self):
        return 0 if self.model.keyboard is None else self.model.now

    def seldom(self):
        return self.source.randrange(8) == 0

    def chord(self):
        if self.seldom():
            return self.source.choice((0, 1 << self.size(), 2**48 - 1, 2**48, 2**53 - 1))
        return self.source.randrange(1, 1 << self.size())

    def events(self, tick, latest, size):
        numbers = []
        for one in range(self.source.choice((0, 1, 2, 4, 9))):
            tick = min(latest, tick + self.source.choice((0, 0, 1, 2, 4, 9)))
            numbers += [tick, self.source.randrange(2 * size)]
        if self.seldom() and numbers:
            numbers[self.source.randrange(len(numbers))] += self.source.choice((1, 20, 2**40, 2**52))
        return numbers[:-1] if self.seldom() else numbers

    def begin(self):
        return self.source.choice(NO_KEYBOARDS if self.source.randrange(2) else KEYBOARDS)

    def policy(self):
        if self.seldom():
            return self.source.choice(((3, 0, 1), (0, 1001, 1), (0, 0, 0), (2, 1000, 10001)))
        return self.source.randrange(3), self.source.choice((0, 3, 8, 40, 1000)), self.source.choice((1, 5, 30, 10000))

    def feed(self):
        now = self.now() + self.source.choice((0, 1, 5, 20, 50))
        if self.seldom() and self.model.keyboard and self.model.rule[1] > 0:
            # Behind key 0's up, which is unsure: too many for all but a keyboard of one key.
            return now, [now, 1, now, 0] + [now, 3, now, 2] * self.source.choice((20, 600))
        events = self.events(self.now(), now, self.size())
        return max(0, now - self.source.choice((1, 30))) if self.seldom() else now, events

    def held(self):
        return ()

    def write(self):
        return [self.chord() for one in range(self.source.choice((0, 1, 1, 2, 3, 10, 11)))]

    def read(self):
        if self.source.randrange(30) == 0:
            return bytes(4097),
        texts = list(self.model.texts) if self.model.keyboard else [b"S"]
        text = bytearray(b"/".join(self.source.choice(texts) for one in range(self.source.choice((1, 1, 2, 3, 10, 11)))))
        if self.source.randrange(2):
            text[self.source.randrange(len(text))] = self.source.choice((45, 47, 35, 49, 65, 0xC3, 0))
        return bytes(text) if not self.seldom() else bytes(text)[:-1],

    def merge(self):
        return self.events(5, 30, 2**52), self.events(5, 30, 2**52)

    def send(self):
        return self.chord(),

    def frame(self):
        return self.source.choice((self.number, 255, 256)), self.source.choice((0, 16, 300, 2**28 - 1, 2**28)), self.chord()

    def line(self):
        return self.source.choice((0, 1, 1, 1, 2)),

    def take(self):
        """Bytes that come in pieces, whatever comes between them; mostly such as are sent on the line."""
        if len(self.rest) < 5:
            which = 0 if self.model.keyboard is None else self.model.which
            for one in range(3):
                self.number = (self.number + self.source.choice((1, 1, 1, 3, 128))) % 256
                good = packet_bytes(self.good_chord()) if which == 0 else frame_bytes(self.number, 5, self.good_chord())
                self.rest = self.rest + (good if self.source.randrange(3) else some_bytes(self.source, which, 6, 1))
        count = self.source.choice((0, 1, 3, 12, 40))
        some, self.rest = self.rest[:count], self.rest[count:]
        return some,

    def good_chord(self):
        return self.source.randrange(1, 1 << self.size())

    def calls(self, count):
        """Calls, and what the document says that they're answered."""
        calls, wanted = [], []
        # Of what takes up where the last one ended there's more.
        names = list(BUILDERS) + ["feed"] * 10 + ["take"] * 12
        for one in range(count):
            name = self.source.choice(names)
            if self.model.keyboard is None and self.source.randrange(3) == 0:
                name = "begin"
            args = tuple(getattr(self, name)())
            call = BUILDERS[name](*args)
            # A list of calls has 19,000 numbers at most.
            if sum(map(len, calls)) + len(call) < 19000:
                calls.append(call)
                wanted.append(self.model.answer(name, args))
        return calls, wanted


class Main(unittest.TestCase):
    def test_all_calls_in_one_row(self):
        source = random.Random(100)
        answered = {}
        for turn in range(300):
            calls, wanted = Asker(source).calls(source.choice((10, 60, 120)))
            given = ask(*calls)
            for place, (call, answer, expected) in enumerate(zip(calls, given, wanted)):
                self.assertEqual(answer, expected, (turn, place, call))
                answered.setdefault(call[0], set()).add(answer[0])
            self.assertEqual(len(given), len(wanted))
        # Every call was answered in each way that there is, but take, which can't be refused.
        self.assertEqual(answered, {0: {0, -1}, 1: {0, -1, -9}, 2: {0, -1, -3, -9}, 3: {0, -9}, 4: {0, -1, -9},
                                    5: {0, -1, -2, -9}, 6: {0, -1}, 7: {0, -1}, 8: {0, -1}, 9: {0, -1, -9}, 10: {0, -9}})


if __name__ == "__main__":
    unittest.main()
