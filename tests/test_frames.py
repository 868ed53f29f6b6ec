"""Section 6: the numbered line, what is sent on it and what is received."""

import random
import unittest

from asking import (EXAMPLE, NARROW, NUMBERED_LINE, REFUSED, WIDE, ask, bad, body_bytes, checked, counted, feed, frame,
                    frame_bytes, framed, line, read, received, take, taken)

LAST_TICKS = 2**28 - 1
FRAME_10 = [2, 0, 0, 10, 0, 0, 0, 0, 0, 183, 60, 3]
TEN = [10, 0, 0, 0, 0, 0]
RESERVED = (2, 3, 16)


def given_takes(board, *rows):
    """What is answered for these rows of bytes, on the numbered line begun anew."""
    return ask(board, line(NUMBERED_LINE), *[take(row) for row in rows])[2:]


def joined(*rows):
    return [byte for row in rows for byte in row]


class Sent(unittest.TestCase):
    def check(self, number, ticks, chord, some):
        self.assertEqual(ask(frame(number, ticks, chord)), [counted(some)], (number, ticks, chord))

    def test_byte_by_byte(self):
        self.check(0, 0, 10, FRAME_10)
        self.check(2, 3, 16, [2, 16, 34, 16, 35, 16, 48, 0, 0, 0, 0, 0, 124, 158, 3])
        self.check(255, LAST_TICKS, 2**48 - 1, [2, 255, 255, 255, 255, 127, *[255] * 6, 129, 37, 3])
        self.check(16, 400, 0x100302100302, [2, 16, 48, 144, 16, 35, 16, 34, 16, 35, 16, 48, 16, 34, 16, 35, 16, 48,
                                             4, 12, 3])

    def test_the_check(self):
        # What is known of this check: of the signs 123456789 it's 29B1 hexadecimal.
        self.assertEqual(checked(b"123456789")[-2:], [0x29, 0xB1])
        chords = [1 << key for key in range(48)]
        self.assertEqual(ask(*[frame(0, 0, chord) for chord in chords]),
                         [counted(frame_bytes(0, 0, chord)) for chord in chords])

    def test_ticks(self):
        for ticks, written in ((0, [0]), (1, [1]), (127, [127]), (128, [128, 1]), (129, [129, 1]), (255, [255, 1]),
                               (256, [128, 16, 34]), (2**14 - 1, [255, 127]), (2**14, [128, 128, 1]),
                               (2**21 - 1, [255, 255, 127]), (2**21, [128, 128, 128, 1]),
                               (LAST_TICKS, [255, 255, 255, 127])):
            given = ask(frame(7, ticks, 10))[0][2:]
            self.assertEqual(given[:-3][:2 + len(written)], [2, 7, *written], ticks)
            self.assertEqual(given, frame_bytes(7, ticks, 10), ticks)

    def test_chords(self):
        for chord, written in ((1, [1, 0, 0, 0, 0, 0]), (2**47, [0, 0, 0, 0, 0, 128]), (2**48 - 1, [255] * 6),
                               (0x090807060504, [4, 5, 6, 7, 8, 9])):
            self.assertEqual(ask(frame(7, 5, chord))[0][4:11], [5, *written], chord)

    def test_numbers(self):
        self.assertEqual(ask(*[frame(number, 9, 10) for number in range(256)]),
                         [counted(frame_bytes(number, 9, 10)) for number in range(256)])

    def test_reserved_bytes_in_each_place_of_the_check(self):
        # The ticks are such that the check has the byte at the place.
        for ticks, place, byte in ((57, -2, 2), (255, -2, 3), (2, -2, 16), (289, -1, 2), (778, -1, 3), (307, -1, 16)):
            body = body_bytes(7, ticks, 10)
            self.assertEqual(body[place], byte)
            self.check(7, ticks, 10, framed(body))
        self.assertEqual(ask(frame(7, 5148, 10))[0][-5:], [16, 35, 16, 34, 3])

    def test_some_frames(self):
        source = random.Random(61)
        asked = [(source.choice((2, 3, 16, source.randrange(256))), source.randrange(1 << source.randint(0, 28)),
                  source.randrange(1, 1 << source.randint(1, 48))) for turn in range(300)]
        self.assertEqual(ask(*[frame(*one) for one in asked]), [counted(frame_bytes(*one)) for one in asked])

    def test_refused(self):
        for asked in ((256, 0, 1), (2**53 - 1, 0, 1), (0, 2**28, 1), (0, 2**53 - 1, 1), (0, 0, 0), (0, 0, 2**48),
                      (0, 0, 2**53 - 1), (256, 2**28, 0)):
            self.assertEqual(ask(frame(*asked)), [REFUSED], asked)

    def test_whatever_the_keyboard_and_the_line(self):
        calls = [frame(3, 300, 2**47), frame(0, 0, 10), frame(256, 0, 1)]
        self.assertEqual(ask(EXAMPLE, line(NUMBERED_LINE), *calls)[2:], ask(*calls))


class Receiving(unittest.TestCase):
    def check(self, board, some, *found):
        """All at once, and byte by byte."""
        self.assertEqual(given_takes(board, some), [received(*found)], some)
        one_by_one = given_takes(board, *[[byte] for byte in some])
        self.assertEqual([number for answer in one_by_one for number in answer[2:]], received(*found)[2:], some)


class Frames(Receiving):
    def test_one(self):
        self.check(EXAMPLE, [])
        self.check(EXAMPLE, FRAME_10, taken(10))
        self.check(EXAMPLE, frame_bytes(9, 12345, 63), taken(63, 12345))

    def test_frames_in_a_row_with_numbers_that_go_from_255_to_0(self):
        sent = [(number % 256, 100 * number, number % 63 + 1) for number in range(250, 263)]
        some = joined(*[ask(frame(*one))[0][2:] for one in sent])
        self.check(EXAMPLE, some, *[taken(chord, ticks) for number, ticks, chord in sent])

    def test_ticks(self):
        for ticks in (0, 1, 2, 3, 16, 127, 128, 130, 131, 144, 255, 256, 2**14 - 1, 2**14, 2**21 - 1, 2**21, LAST_TICKS):
            self.check(EXAMPLE, frame_bytes(0, ticks, 5), taken(5, ticks))

    def test_reserved_bytes_at_each_place(self):
        for byte in RESERVED:
            self.check(EXAMPLE, frame_bytes(byte, 0, 10), taken(10))
            for ticks in (byte, byte << 7, 128 + byte << 14, byte << 21):
                self.check(EXAMPLE, frame_bytes(0, ticks, 10), taken(10, ticks))
            for index in range(6):
                self.check(WIDE, frame_bytes(0, 0, byte << 8 * index), taken(byte << 8 * index))
        for ticks in (57, 255, 2, 289, 778, 307, 5148):
            self.check(EXAMPLE, frame_bytes(7, ticks, 10), taken(10, ticks))

    def test_a_byte_that_stands_for_itself_only_behind_16(self):
        for byte in (34, 35, 48):
            self.check(WIDE, frame_bytes(byte, byte, byte << 16), taken(byte << 16, byte))

    def test_told_by_its_last_byte(self):
        some = frame_bytes(3, 16, 2)
        self.assertEqual(given_takes(EXAMPLE, *[[byte] for byte in some]),
                         [received()] * (len(some) - 1) + [received(taken(2, 16))])

    def test_a_frame_that_goes_on_in_the_next_take(self):
        some = frame_bytes(2, 3, 16)
        for cut in range(len(some) + 1):
            given = given_takes(EXAMPLE, FRAME_10 + some[:cut], [], some[cut:] + [7])
            ended = cut == len(some)
            self.assertEqual(given, [received(taken(10), taken(16, 3, 1)) if ended else received(taken(10)), received(),
                                     received(bad(1, 27)) if ended else received(taken(16, 3, 1), bad(1, 27))], cut)

    def test_other_calls_between(self):
        some = frame_bytes(255, 2, 3) + frame_bytes(1, 16, 34)
        between = [feed(5, (5, 1, 1)), read("S-"), [4, 0], frame(9, 9, 9), feed(4), frame(256, 0, 1), line(2),
                   [1, 3, 0, 1], [0, 2, 0, 0, 2, 97, 97, 2, 0, 0], [6, 1, 5, 0], [3]]
        calls = [call for place, byte in enumerate(some) for call in (take([byte]), between[place % len(between)])]
        given = [answer[2:] for answer in ask(EXAMPLE, line(NUMBERED_LINE), *calls)[2::2] if answer != received()]
        self.assertEqual(given, [list(taken(3, 2)), list(taken(34, 16, 1))])

    def test_a_keyboard_of_1_key_and_of_48(self):
        self.check(NARROW, frame_bytes(0, 5, 1) + frame_bytes(1, 6, 4) + frame_bytes(1, 7, 1),
                   taken(1, 5), bad(8, 12), taken(1, 7))
        for chord in (2, 3, 5, 2**47 + 1):
            self.check(NARROW, frame_bytes(0, 5, chord), bad(8, 0))
        self.check(WIDE, frame_bytes(0, 5, 2**48 - 1) + frame_bytes(1, 6, 2**47) + frame_bytes(5, 6, 0),
                   taken(2**48 - 1, 5), taken(2**47, 6), bad(8, 24))

    def test_long_rows_of_bytes(self):
        some = joined(*[frame_bytes(number % 256, 5, 10) for number in range(1400)])
        self.assertEqual(given_takes(EXAMPLE, some), [received(*[taken(10, 5)] * 1400)])
        self.assertEqual(given_takes(EXAMPLE, [2] * 18000), [received(*[bad(2, place) for place in range(17999)])])
        self.assertEqual(given_takes(EXAMPLE, [16] * 18000), [received(*[bad(1, place) for place in range(18000)])])
        self.assertEqual(given_takes(EXAMPLE, [2, 3] * 9000), [received(*[bad(5, place) for place in range(0, 18000, 2)])])


class LostFrames(Receiving):
    def test_steps_from_the_awaited_number(self):
        for last in (0, 5, 100, 127, 128, 200, 254, 255):
            calls, wanted = [], []
            for steps in range(256):
                second = (last + 1 + steps) % 256
                calls += [line(NUMBERED_LINE), take(frame_bytes(last, 1, 1) + frame_bytes(second, 2, 2))]
                start = len(frame_bytes(last, 1, 1))
                wanted += [[0], received(taken(1, 1), taken(2, 2, steps) if steps < 128 else bad(9, start))]
            given = [answer for place in (0, 200, 400) for answer in ask(EXAMPLE, *calls[place:place + 200])[1:]]
            self.assertEqual(given, wanted, last)

    def test_edges(self):
        for number, found in ((41, taken(2, 34)), (42, taken(2, 34, 1)), (168, taken(2, 34, 127)), (169, bad(9, 12)),
                              (40, bad(9, 12))):
            self.check(EXAMPLE, frame_bytes(40, 1, 1) + frame_bytes(number, 34, 2), taken(1, 1), found)

    def test_the_first_frame_whatever_its_number(self):
        calls = [call for number in range(128) for call in (line(NUMBERED_LINE), take(frame_bytes(number, 1, 1)))]
        self.assertEqual(ask(EXAMPLE, *calls)[2::2], [received(taken(1, 1))] * 128)
        calls = [call for number in range(128, 256) for call in (line(NUMBERED_LINE), take(frame_bytes(number, 1, 1)))]
        self.assertEqual(ask(EXAMPLE, *calls)[2::2], [received(taken(1, 1))] * 128)

    def test_the_first_frame_that_is_taken(self):
        self.check(EXAMPLE, frame_bytes(77, 1, 64) + frame_bytes(5, 1, 9) + frame_bytes(7, 1, 9), bad(8, 0),
                   taken(9, 1), taken(9, 1, 1))

    def test_what_is_awaited_behind_a_fault(self):
        number_7 = frame_bytes(7, 1, 1)
        faults = {
            1: ([9], 12), 2: ([2, 9, 9], 12), 3: ([2, 9, 16, 9], 12), 4: ([2] + [9] * 14, 12), 5: ([2, 9, 9, 3], 12),
            6: ([2, 9, 0] + TEN + [9, 9, 3], 12), 7: (framed(checked([9, 128] + TEN)), 12),
            8: (frame_bytes(9, 1, 64), 12), 9: (frame_bytes(6, 1, 1), 12),
        }
        for kind, (some, place) in faults.items():
            for number, lost in ((7, 0), (10, 3)):
                self.check(EXAMPLE, frame_bytes(6, 1, 1) + some + frame_bytes(number, 1, 1), taken(1, 1),
                           bad(kind, place), taken(1, 1, lost))
            self.check(EXAMPLE, frame_bytes(6, 1, 1) + number_7 + some + number_7, taken(1, 1), taken(1, 1),
                       bad(kind, 24), bad(9, 24 + len(some)))

    def test_old_frames_sent_again(self):
        # 201 is awaited; 73 is the last of the 128 before it, 72 is 127 steps ahead; then 73 is awaited.
        some = joined(*[frame_bytes(number, 1, 1) for number in (200, 200, 199, 73, 72, 201, 72, 200)])
        self.check(EXAMPLE, some, taken(1, 1), bad(9, 12), bad(9, 24), bad(9, 36), taken(1, 1, 127), bad(9, 60),
                   bad(9, 72), taken(1, 1, 127))


class Faults(Receiving):
    def test_1(self):
        for byte in (0, 1, 3, 16, 34, 48, 128, 255):
            self.check(EXAMPLE, [byte], bad(1, 0))
            self.check(EXAMPLE, FRAME_10 + [byte] + frame_bytes(1, 0, 1), taken(10), bad(1, 12), taken(1))
        self.check(EXAMPLE, [3, 3, 16, 34] + FRAME_10, bad(1, 0), bad(1, 1), bad(1, 2), bad(1, 3), taken(10))

    def test_2(self):
        for cut in range(1, 12):
            self.check(EXAMPLE, [9] + FRAME_10[:cut] + FRAME_10, bad(1, 0), bad(2, 1), taken(10))
        self.check(EXAMPLE, [2, 2, 2] + FRAME_10, bad(2, 0), bad(2, 1), bad(2, 2), taken(10))
        self.check(EXAMPLE, [2] + [9] * 13 + FRAME_10, bad(2, 0), taken(10))

    def test_2_right_behind_16(self):
        self.check(EXAMPLE, [2, 16] + FRAME_10, bad(2, 0), taken(10))
        self.check(EXAMPLE, [7, 2, 9, 16, 2, 16] + FRAME_10 + [9], bad(1, 0), bad(2, 1), bad(2, 4), taken(10),
                   bad(1, 18))
        # 34 behind it would be 2 if the 16 still held.
        self.check(EXAMPLE, [2, 16] + frame_bytes(34, 0, 10), bad(2, 0), taken(10))

    def test_3(self):
        for byte in [byte for byte in range(256) if byte not in (2, 34, 35, 48)]:
            self.check(EXAMPLE, [9, 2, 16, byte] + FRAME_10, bad(1, 0), bad(3, 1), taken(10))
        for byte in (3, 16, 0, 50, 66, 99, 162):
            self.check(EXAMPLE, [2, 5, 6, 16, byte, 16, 3, 5] + FRAME_10, bad(3, 0), bad(1, 5), bad(1, 6), bad(1, 7),
                       taken(10))

    def test_3_is_told_by_the_byte_behind_16(self):
        given = given_takes(EXAMPLE, [2, 16], [16], [34], [3])
        self.assertEqual(given, [received(), received(bad(3, 0)), received(bad(1, 3)), received(bad(1, 4))])

    def test_16_does_not_hold_for_the_next_frame(self):
        self.check(EXAMPLE, [2, 16, 9] + FRAME_10 + [2, 16, 34, 3] + frame_bytes(34, 0, 10), bad(3, 0), taken(10),
                   bad(5, 15), taken(10, 0, 33))

    def test_4(self):
        for byte in (0, 9, 34, 255):
            self.check(EXAMPLE, [9, 2] + [byte] * 14 + FRAME_10, bad(1, 0), bad(4, 1), taken(10))
            self.check(EXAMPLE, [2] + [byte] * 14 + [3, 8], bad(4, 0), bad(1, 15), bad(1, 16))

    def test_4_is_told_by_the_14th_byte(self):
        given = given_takes(EXAMPLE, [2] + [9] * 13, [9], [9], [3])
        self.assertEqual(given, [received(), received(bad(4, 0)), received(bad(1, 15)), received(bad(1, 16))])

    def test_4_is_told_by_the_second_of_two(self):
        for byte in (34, 35, 48):
            given = given_takes(EXAMPLE, [2] + [9] * 13, [16], [byte], [9], FRAME_10)
            self.assertEqual(given, [received(), received(), received(bad(4, 0)), received(bad(1, 16)),
                                     received(taken(10))])

    def test_16_in_the_14th_byte_s_place(self):
        for byte in (0, 3, 9, 16, 33):
            self.check(EXAMPLE, [2] + [9] * 13 + [16, byte, 9], bad(3, 0), bad(1, 16))
        self.check(EXAMPLE, [2] + [9] * 13 + [16] + FRAME_10, bad(2, 0), taken(10))

    def test_the_longest_body(self):
        longest = frame_bytes(9, LAST_TICKS, 63)
        self.assertEqual(len(longest), 15)
        self.check(EXAMPLE, longest, taken(63, LAST_TICKS))
        self.check(EXAMPLE, longest[:-1] + [9, 3], bad(4, 0), bad(1, 15))
        # Each of the 13 sent as two.
        for byte in (34, 35, 48):
            self.check(EXAMPLE, [2] + [16, byte] * 13 + [3], bad(6, 0))
            self.check(EXAMPLE, [2] + [16, byte] * 14 + [3], bad(4, 0), bad(1, 29))

    def test_5(self):
        self.check(EXAMPLE, [2, 3], bad(5, 0))
        for length in range(10):
            self.check(EXAMPLE, [2] + [9] * length + [3] + FRAME_10, bad(5, 0), taken(10))
            if length >= 2:
                self.check(EXAMPLE, framed(checked([9] * (length - 2))), bad(5, 0))
        self.check(EXAMPLE, [2] + [9] * 10 + [3], bad(6, 0))
        # As two bytes each, nine are still too few.
        self.check(EXAMPLE, [2] + [16, 34] * 9 + [3], bad(5, 0))

    def test_6(self):
        for place in range(1, 11):
            for bit in range(8):
                turned = body_bytes(0, 0, 10)
                turned[place - 1] ^= 1 << bit
                self.check(EXAMPLE, framed(turned) + frame_bytes(1, 0, 1), bad(6, 0), taken(1))
        body = body_bytes(7, 300, 10)
        self.check(EXAMPLE, framed(body[:-2] + [body[-1], body[-2]]), bad(6, 0))

    def test_7(self):
        for ticks in ([128, 0], [129, 0], [133, 128, 0], [128, 128, 128, 0], [128, 0, 0], [5, 5], [5, 0], [0, 0],
                      [5, 133], [128], [133], [255], [129, 129], [255, 255, 255], [129, 129, 129, 129],
                      [128, 128, 128, 128], [1, 2, 3, 4], [129, 1, 129, 1], [5, 133, 133, 1], [133, 133, 5, 1]):
            some = framed(checked([7, *ticks, *TEN]))
            self.check(EXAMPLE, some + FRAME_10, bad(7, 0), taken(10))

    def test_7_ticks_of_five_bytes(self):
        # With a whole chord behind them the body is too long; else bytes are wanting.
        some = framed(checked([7, 129, 129, 129, 129, 1, *TEN]))
        self.check(EXAMPLE, some + FRAME_10, bad(4, 0), bad(1, len(some) - 1), taken(10))
        for ticks in ([129, 129, 129, 129, 1], [128, 128, 128, 128, 1]):
            self.check(EXAMPLE, framed(checked([7, *ticks, *TEN[:5]])) + FRAME_10, bad(7, 0), taken(10))

    def test_ticks_that_are_well_written(self):
        for ticks, worth in (([0], 0), ([127], 127), ([128, 1], 128), ([255, 127], 2**14 - 1), ([128, 128, 1], 2**14),
                             ([128, 128, 128, 1], 2**21), ([255, 255, 255, 127], LAST_TICKS), ([129, 128, 1], 2**14 + 1)):
            self.check(EXAMPLE, framed(checked([7, *ticks, *TEN])), taken(10, worth))

    def test_8(self):
        for chord in (0, 64, 65, 127, 2**40, 2**47, 2**48 - 1):
            start = len(frame_bytes(0, 0, 1))
            self.check(EXAMPLE, frame_bytes(0, 0, 1) + frame_bytes(1, 0, chord) + frame_bytes(1, 0, 63), taken(1),
                       bad(8, start), taken(63))

    def test_9(self):
        self.check(EXAMPLE, FRAME_10 + FRAME_10 + frame_bytes(1, 0, 1), taken(10), bad(9, 12), taken(1))
        self.check(EXAMPLE, FRAME_10 + frame_bytes(255, 0, 10) + frame_bytes(129, 0, 10), taken(10), bad(9, 12),
                   bad(9, 24))

    def test_which_is_told_first(self):
        before = frame_bytes(9, 0, 10)
        # Too few bytes, a wrong check, no ticks, no chord, an old number; then one fault the less each time.
        for kind, body in ((5, [9, 128, 0, 0, 0, 0, 0, 7, 7]), (5, checked([9, 128, 0, 0, 0, 0, 0])),
                           (6, [9, 128, 0, 0, 0, 0, 0, 0, 7, 7]), (7, checked([9, 128, 0, 0, 0, 0, 0, 0])),
                           (8, body_bytes(9, 5, 0)), (8, body_bytes(9, 5, 64)), (9, body_bytes(9, 5, 10))):
            self.check(EXAMPLE, before + framed(body), taken(10), bad(kind, len(before)))

    def test_a_frame_that_is_not_ended_is_not_judged(self):
        self.check(EXAMPLE, FRAME_10[:-1])
        self.check(EXAMPLE, [2] + [9] * 13)
        self.check(EXAMPLE, [2] + [9] * 13 + [16])
        self.check(EXAMPLE, [2, 16])

    def test_places_go_on_from_take_to_take(self):
        given = given_takes(EXAMPLE, [], [1], [2], FRAME_10, [2, 16], [], [9, 9], [2, 3])
        self.assertEqual(given, [received(), received(bad(1, 0)), received(), received(bad(2, 1), taken(10)),
                                 received(), received(), received(bad(3, 14), bad(1, 17)), received(bad(5, 18))])


if __name__ == "__main__":
    unittest.main()
