"""Promises 5, 6 and 7, over many rows of bytes; and what is received compared with the words of sections 5 and 6, taken
over all the bytes at once.
"""

import binascii
import random
import re
import unittest

from asking import (EXAMPLE, MIXED, NARROW, NUMBERED_LINE, PLAIN_LINE, WIDE, ask, bad, body_bytes, checked, frame,
                    frame_bytes, framed, line, packet_bytes, send, take, taken)

BOARDS = ((EXAMPLE, 6), (MIXED, 8), (NARROW, 1), (WIDE, 48))

PACKETS = re.compile(rb"(?P<stray>[\0-\x7f])|(?P<whole>[\x80-\xff][\0-\x7f]{6})"
                     rb"|(?P<cut>[\x80-\xff][\0-\x7f]{0,5}(?=[\x80-\xff]))|(?P<open>[\x80-\xff][\0-\x7f]{0,5}\Z)", re.S)

UNIT = rb"(?:[^\x02\x03\x10]|\x10[\x22\x23\x30])"
FRAMES = re.compile(rb"(?P<stray>[^\x02])|\x02(?:(?P<whole>" + UNIT + rb"{0,13})\x03"
                    rb"|(?P<cut>" + UNIT + rb"{0,13}\x10?(?=\x02))|(?P<long>" + UNIT + rb"{14})"
                    rb"|(?P<wrong>" + UNIT + rb"{0,13}\x10[^\x02\x22\x23\x30])|(?P<open>" + UNIT + rb"{0,13}\x10?\Z))",
                    re.S)


def pieces_of(pattern, some):
    """What bytes come to, piece by piece, none left out: the kind, the match."""
    matches = list(pattern.finditer(bytes(some)))
    assert b"".join(match.group() for match in matches) == bytes(some)
    return [(match.lastgroup, match) for match in matches]


def packet_found(size, start, packet):
    number = int("".join(f"{byte:08b}"[-6 if place == 0 else -7:] for place, byte in enumerate(packet)), 2)
    if bin(number).count("1") % 2 != packet[0] >> 6 & 1:
        return bad(3, start)
    return taken(number) if number in range(1, 2**size) else bad(4, start)


def plain_found(size, some):
    """All that is received of a plain line's bytes."""
    found = []
    for kind, match in pieces_of(PACKETS, some):
        if kind == "whole":
            found.append(packet_found(size, match.start(), match.group()))
        elif kind != "open":
            found.append(bad({"stray": 1, "cut": 2}[kind], match.start()))
    return found


def frame_found(size, start, body, awaited):
    if len(body) < 10:
        return bad(5, start)
    if binascii.crc_hqx(body[:-2], 0xFFFF) != int.from_bytes(body[-2:], "big"):
        return bad(6, start)
    ticks = body[1:-8]
    if not re.fullmatch(rb"[\0-\x7f]|[\x80-\xff]{1,3}[\x01-\x7f]", ticks, re.S):
        return bad(7, start)
    chord = int.from_bytes(body[-8:-2], "little")
    if chord not in range(1, 2**size):
        return bad(8, start)
    steps = 0
    while awaited is not None and (awaited + steps) % 256 != body[0]:
        steps += 1
    if steps >= 128:
        return bad(9, start)
    return taken(chord, sum((byte & 127) << 7 * place for place, byte in enumerate(ticks)), steps)


def numbered_found(size, some):
    """All that is received of a numbered line's bytes."""
    found, awaited = [], None
    for kind, match in pieces_of(FRAMES, some):
        if kind == "whole":
            body = re.sub(rb"\x10(.)", lambda turned: bytes([turned.group(1)[0] ^ 32]), match.group("whole"), flags=re.S)
            found.append(frame_found(size, match.start(), body, awaited))
            if found[-1][0] == 0:
                awaited = (body[0] + 1) % 256
        elif kind != "open":
            found.append(bad({"stray": 1, "cut": 2, "wrong": 3, "long": 4}[kind], match.start()))
    return found


def found_of(which, size, some):
    return plain_found(size, some) if which == PLAIN_LINE else numbered_found(size, some)


def found_in(answer):
    assert answer[0] == 0 and answer[1] == len(answer) - 2
    return [tuple(answer[place:place + 4]) for place in range(2, len(answer), 4)]


def some_chord(source, size):
    return source.choice((1, 1 << size - 1, (1 << size) - 1, source.randrange(1, 1 << size)))


def some_packets(source, size):
    """Bytes of the plain line: packets, some of them turned, cut or of other keyboards' chords, and others."""
    row = packet_bytes(source.choice((0, some_chord(source, size), some_chord(source, 48))))
    turn = source.randrange(8)
    if turn == 0:
        row[source.randrange(7)] ^= 1 << source.randrange(8)
    elif turn == 1:
        row = row[:source.randrange(7)]
    elif turn == 2:
        row = [source.randrange(256) for one in range(source.randrange(9))]
    return row


def some_body(source, size, number):
    """A body, or what is nearly one."""
    body = body_bytes(number, source.randrange(1 << source.choice((1, 7, 8, 14, 28))), some_chord(source, size))
    turn = source.randrange(12)
    if turn == 0:
        body = checked([number, *[source.choice((0, 1, 127, 128, 255)) for one in range(source.randrange(6))],
                        *[source.randrange(256) for one in range(source.choice((5, 6)))]])
    elif turn == 1:
        body = body_bytes(number, 1, source.choice((0, (1 << size) % 2**48, 2**48 - 1)))
    elif turn == 2:
        body = [source.choice((2, 3, 16, 34, 35, 48, 255)) for one in range(source.randrange(16))]
    elif turn == 3:
        body[source.randrange(len(body))] ^= 1 << source.randrange(8)
    return body


def some_frames(source, size, number):
    """Bytes of the numbered line: frames, some of them turned, cut or wrong, and others."""
    row = framed(some_body(source, size, number))
    turn = source.randrange(10)
    if turn == 0:
        row[source.randrange(len(row))] = source.choice((2, 3, 16, 34, 0))
    elif turn == 1:
        row = row[:source.randrange(len(row))]
    elif turn == 2:
        row = [source.choice((0, 2, 3, 16, 34, 35, 48, 200)) for one in range(source.randrange(30))]
    return row


def some_bytes(source, which, size, count):
    row, number = [], source.randrange(256)
    for one in range(count):
        number = (number + source.choice((1, 1, 1, 1, 2, 127, 128, 129, 255, 0))) % 256
        row += some_packets(source, size) if which == PLAIN_LINE else some_frames(source, size, number)
    return row


def cut(source, some):
    rows, place = [], 0
    while place < len(some):
        end = place + source.choice((0, 1, 1, 2, 3, 7, 15, 40))
        rows.append(some[place:end])
        place = end
    return rows


class AsTheWordsSay(unittest.TestCase):
    def check(self, which, board, size, rows):
        given = ask(board, line(which), *[take(row) for row in rows])[2:]
        before = []
        some = []
        for row, answer in zip(rows, given):
            some = some + row
            whole = found_of(which, size, some)
            # Each as soon as it can be told.
            self.assertEqual(found_in(answer), whole[len(before):], (which, size, some))
            self.assertEqual(whole[:len(before)], before)
            before = whole
        return {found[0] for found in before}

    def test_however_bytes_are_cut(self):
        source = random.Random(56)
        for which, kinds in ((PLAIN_LINE, 5), (NUMBERED_LINE, 10)):
            told = set()
            for turn in range(80):
                board, size = source.choice(BOARDS)
                some = some_bytes(source, which, size, 25)
                told |= self.check(which, board, size, [some])
                self.check(which, board, size, cut(source, some)[:290])
            self.assertEqual(told, set(range(kinds)))

    def test_rows_of_bytes_that_mean_something(self):
        source = random.Random(57)
        for turn in range(150):
            signs = source.choice(([2, 3, 16, 34, 35, 48, 9], [2, 16, 34, 9], [2, 16, 9, 9, 9, 9, 9, 34, 35, 48], [2, 3],
                                   [0, 128], [0, 1, 2, 127, 128, 192, 255]))
            some = [source.choice(signs) for one in range(150)]
            for which in (PLAIN_LINE, NUMBERED_LINE):
                self.check(which, EXAMPLE, 6, [some])
                self.check(which, EXAMPLE, 6, [[byte] for byte in some])


class WhatIsSentIsReceived(unittest.TestCase):
    def test_promise_5_on_the_plain_line(self):
        source = random.Random(58)
        for turn in range(200):
            board, size = source.choice(BOARDS)
            chords = [some_chord(source, size) for one in range(source.randint(1, 6))]
            rows = [[source.randrange(256) for one in range(source.randrange(20))] for chord in chords]
            packets = [answer[2:] for answer in ask(*[send(chord) for chord in chords])]
            given = ask(board, *[take(some) for both in zip(rows, packets) for some in both])[1:]
            for before, answer, chord in zip(given[::2], given[1::2], chords):
                # Behind a packet that was cut off there's that fault, and then nothing but the chord.
                found = found_in(answer)
                self.assertEqual(found[-1], taken(chord))
                self.assertEqual([one[0] for one in found[:-1]], [2] * (len(found) - 1))
                self.assertLessEqual(len(found), 2)
            self.assert_told_once(board, rows, packets, chords)

    def assert_told_once(self, board, rows, packets, chords):
        """Bytes that can't make a packet: the chords are told, and no others."""
        rows = [[byte for byte in row if byte < 128] + [128] * (len(row) % 3) for row in rows]
        some = [byte for both in zip(rows, packets) for one in both for byte in one]
        found = found_in(ask(board, take(some))[1])
        self.assertEqual([one for one in found if one[0] == 0], [taken(chord) for chord in chords])

    def test_promise_5_of_each_chord_behind_each_cut(self):
        for cut_at in range(7):
            for before in (packet_bytes(63), packet_bytes(1), [255] + [127] * 6):
                calls = [take(before[:cut_at] + packet_bytes(chord)) for chord in range(1, 64)]
                given = ask(EXAMPLE, *calls)[1:]
                self.assertEqual([found_in(answer)[-1] for answer in given], [taken(chord) for chord in range(1, 64)])

    def test_promise_5_on_the_numbered_line(self):
        source = random.Random(59)
        for turn in range(200):
            board, size = source.choice(BOARDS)
            count = source.choice((1, 5, 40))
            first = source.randrange(256)
            sent = [((first + place) % 256, source.randrange(1 << source.choice((3, 7, 8, 28))),
                     some_chord(source, size)) for place in range(count)]
            frames = [answer[2:] for answer in ask(*[frame(*one) for one in sent])]
            rows = [[source.choice((0, 1, 3, 16, 34, 35, 48, source.randrange(3, 256)))
                     for one in range(source.randrange(20))] for one in sent]
            given = ask(board, line(NUMBERED_LINE), *[take(before + some) for before, some in zip(rows, frames)])[2:]
            for before, answer, (number, ticks, chord) in zip(rows, given, sent):
                self.assertEqual([one[0] for one in found_in(answer)], [1] * len(before) + [0])
                self.assertEqual(found_in(answer)[-1], taken(chord, ticks, 0))


class TurnedBits(unittest.TestCase):
    def check(self, board, before, packet, behind):
        """Each bit turned of a packet, where none is under way, and nothing but packets behind it."""
        for place in range(7):
            for bit in range(8):
                turned = packet_bytes(packet)
                turned[place] ^= 1 << bit
                some = [byte for chord in before for byte in packet_bytes(chord)] + turned
                some += [byte for chord in behind for byte in packet_bytes(chord)]
                found = found_in(ask(board, take(some))[1])
                chords = [one[1] for one in found if one[0] == 0]
                self.assertEqual(chords, before + behind, (packet, place, bit))
                self.assertNotEqual(len(found), len(chords))

    def test_promise_6(self):
        source = random.Random(60)
        for packet in (1, 10, 2**48 - 1, 2**47, 2**42, 0x555555555555):
            self.check(WIDE, [], packet, [])
            self.check(WIDE, [], packet, [5])
            self.check(WIDE, [7], packet, [2**48 - 1, 1, 1])
        for turn in range(10):
            rows = [[some_chord(source, 48) for one in range(source.randrange(4))] for side in (0, 1)]
            self.check(WIDE, rows[0], some_chord(source, 48), rows[1])
        for packet in range(1, 64, 3):
            self.check(EXAMPLE, [9], packet, [1, 63])


class LostFrames(unittest.TestCase):
    def test_promise_7(self):
        source = random.Random(61)
        for turn in range(150):
            last = source.randrange(256)
            numbers, wanted = [last], [(0, 0)]
            for one in range(source.randint(1, 60)):
                if source.randrange(3) == 0:
                    # One of the 128 that come before the awaited one.
                    numbers.append((last - source.choice((0, 1, 126, 127, source.randrange(128)))) % 256)
                    wanted.append((9, 0))
                else:
                    lost = source.choice((0, 0, 1, 5, 126, 127, source.randrange(128)))
                    last = (last + lost + 1) % 256
                    numbers.append(last)
                    wanted.append((0, lost))
            given = ask(EXAMPLE, line(NUMBERED_LINE), *[take(frame_bytes(number, 7, 9)) for number in numbers])[2:]
            found = [found_in(answer)[0] for answer in given]
            self.assertEqual([(one[0], one[3]) for one in found], wanted)
            self.assertEqual([len(answer) for answer in given], [6] * len(given))

    def test_promise_7_with_faults_between(self):
        source = random.Random(62)
        for turn in range(60):
            some = some_bytes(source, NUMBERED_LINE, 6, 40)
            number = source.randrange(256)
            # Frames 1 to 127 are lost in some way between these two; what comes between isn't taken.
            lost = source.randrange(1, 128)
            between = [0] + frame_bytes(number, 1, 64) + framed(checked([number + 1 & 255, 0, 0] + [1] * 6)) + [2, 16, 16]
            row = frame_bytes(number, 5, 9) + between + frame_bytes((number + lost + 1) % 256, 5, 9)
            found = found_in(ask(EXAMPLE, take(some), line(NUMBERED_LINE), take(row))[3])
            self.assertEqual([one[0] for one in found], [0, 1, 8, 7, 3, 0])
            self.assertEqual(found[-1], taken(9, 5, lost))


if __name__ == "__main__":
    unittest.main()
