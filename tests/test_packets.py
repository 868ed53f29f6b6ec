"""Section 5: the plain line, what is sent on it and what is received."""

import random
import unittest

from asking import (EXAMPLE, NARROW, REFUSED, WIDE, ask, bad, counted, feed, packet_bytes, read, received, send, take,
                    taken, write)

CHORD_10 = [128, 0, 0, 0, 0, 0, 10]
CHORD_34 = [128, 0, 0, 0, 0, 0, 34]
CHORD_1 = [192, 0, 0, 0, 0, 0, 1]


def given_takes(board, *rows):
    """What is answered for these rows of bytes, on the plain line that begin begins."""
    return ask(board, *[take(row) for row in rows])[1:]


class Sent(unittest.TestCase):
    def check(self, chord, packet):
        self.assertEqual(ask(send(chord)), [counted(packet)], chord)

    def test_ordinary(self):
        self.check(10, CHORD_10)
        self.check(34, CHORD_34)
        self.check(1, CHORD_1)
        self.check(11, [192, 0, 0, 0, 0, 0, 11])
        self.check(255, [128, 0, 0, 0, 0, 1, 127])

    def test_each_key(self):
        for key in range(42):
            self.check(1 << key, [192] + [1 << key % 7 if place == key // 7 else 0 for place in (5, 4, 3, 2, 1, 0)])
        for key in range(42, 48):
            self.check(1 << key, [192 + (1 << key - 42), 0, 0, 0, 0, 0, 0])

    def test_all_keys(self):
        self.check(2**48 - 1, [191, 127, 127, 127, 127, 127, 127])
        self.check(2**48 - 2, [255, 127, 127, 127, 127, 127, 126])
        self.check(2**47 - 1, [223, 127, 127, 127, 127, 127, 127])

    def test_some_chords(self):
        source = random.Random(51)
        chords = [source.randrange(1, 1 << source.randint(1, 48)) for turn in range(300)]
        self.assertEqual(ask(*[send(chord) for chord in chords]), [counted(packet_bytes(chord)) for chord in chords])

    def test_refused(self):
        self.assertEqual(ask(send(0), send(2**48), send(2**48 + 1), send(2**53 - 1)), [REFUSED] * 4)

    def test_whatever_the_keyboard(self):
        self.assertEqual(ask(EXAMPLE, send(64), send(0), send(2**48 - 1))[1:],
                         [counted([192, 0, 0, 0, 0, 0, 64]), REFUSED, counted(packet_bytes(2**48 - 1))])


class Received(unittest.TestCase):
    def check(self, board, some, *found):
        """All at once, and byte by byte."""
        self.assertEqual(given_takes(board, some), [received(*found)], some)
        one_by_one = given_takes(board, *[[byte] for byte in some])
        self.assertEqual([number for answer in one_by_one for number in answer[2:]], received(*found)[2:], some)

    def test_chords(self):
        self.check(EXAMPLE, [])
        self.check(EXAMPLE, CHORD_10, taken(10))
        self.check(EXAMPLE, CHORD_1 + CHORD_34 + CHORD_34 + CHORD_10, taken(1), taken(34), taken(34), taken(10))

    def test_told_by_the_last_byte(self):
        self.assertEqual(given_takes(EXAMPLE, *[[byte] for byte in CHORD_10]), [received()] * 6 + [received(taken(10))])
        for cut in range(8):
            self.assertEqual(given_takes(EXAMPLE, CHORD_10[:cut], [], CHORD_10[cut:] + CHORD_1)[2],
                             received(taken(10), taken(1)) if cut < 7 else received(taken(1)))

    def test_other_calls_between(self):
        between = [feed(5, (5, 1, 1)), read("S-"), write(0), send(9), feed(4), [8, 256, 0, 0], [9, 2], [1, 3, 0, 1]]
        calls = [call for byte, other in zip(CHORD_1 + CHORD_10, between * 2) for call in (take([byte]), other)]
        given = ask(EXAMPLE, *calls)[1::2]
        self.assertEqual(given[6], received(taken(1)))
        self.assertEqual(given[13], received(taken(10)))
        self.assertEqual(given[:6] + given[7:13], [received()] * 12)

    def test_all_chords_of_a_keyboard(self):
        some = [byte for chord in range(1, 64) for byte in ask(send(chord))[0][2:]]
        self.assertEqual(given_takes(EXAMPLE, some), [received(*[taken(chord) for chord in range(1, 64)])])

    def test_fault_1(self):
        for byte in (0, 2, 3, 16, 64, 127):
            self.check(EXAMPLE, [byte], bad(1, 0))
            self.check(EXAMPLE, CHORD_10 + [byte] + CHORD_1, taken(10), bad(1, 7), taken(1))
        self.check(EXAMPLE, [1, 2, 3] + CHORD_10 + [4, 5], bad(1, 0), bad(1, 1), bad(1, 2), taken(10), bad(1, 10),
                   bad(1, 11))

    def test_fault_2(self):
        for cut in range(1, 7):
            self.check(EXAMPLE, CHORD_10[:cut] + CHORD_34, bad(2, 0), taken(34))
            self.check(EXAMPLE, CHORD_1 + CHORD_10[:cut] + CHORD_10[:cut] + CHORD_34,
                       taken(1), bad(2, 7), bad(2, 7 + cut), taken(34))
        self.check(EXAMPLE, [5, 128, 255, 192, 128], bad(1, 0), bad(2, 1), bad(2, 2), bad(2, 3))

    def test_fault_3(self):
        self.check(EXAMPLE, [192] + CHORD_10[1:], bad(3, 0))
        self.check(EXAMPLE, [128] + CHORD_1[1:], bad(3, 0))
        self.check(EXAMPLE, CHORD_1 + [192] + CHORD_10[1:] + [9] + CHORD_1, taken(1), bad(3, 7), bad(1, 14), taken(1))
        self.check(WIDE, [191 + 64] + [127] * 6 + [128 + 32] + [0] * 6 + [192 + 32] + [0] * 6,
                   bad(3, 0), bad(3, 7), taken(2**47))

    def test_fault_4(self):
        self.check(EXAMPLE, [128] + [0] * 6, bad(4, 0))
        self.check(EXAMPLE, CHORD_1 + [128] + [0] * 6 + [7] + CHORD_1, taken(1), bad(4, 7), bad(1, 14), taken(1))
        for chord in (64, 65, 127, 2**42, 2**47, 2**48 - 1):
            self.check(EXAMPLE, packet_bytes(chord) + packet_bytes(63), bad(4, 0), taken(63))

    def test_a_keyboard_of_1_key(self):
        self.check(NARROW, CHORD_1 + packet_bytes(2) + packet_bytes(3) + packet_bytes(0), taken(1), bad(4, 7),
                   bad(4, 14), bad(4, 21))

    def test_a_keyboard_of_48_keys(self):
        chords = [1, 2**48 - 1, 2**47, 2**47 + 1, 2**46 + 2**42, 0]
        self.check(WIDE, [byte for chord in chords for byte in packet_bytes(chord)],
                   *[taken(chord) for chord in chords[:-1]], bad(4, 35))

    def test_fault_3_ahead_of_fault_4(self):
        self.check(EXAMPLE, [192] + [0] * 6, bad(3, 0))
        self.check(EXAMPLE, [128] + [0] * 5 + [64], bad(3, 0))

    def test_places_go_on_from_take_to_take(self):
        given = given_takes(EXAMPLE, [], [1], CHORD_10 + [128], [], [128, 0], [0] * 3, [0, 3, 2])
        self.assertEqual(given, [received(), received(bad(1, 0)), received(taken(10)), received(),
                                 received(bad(2, 8)), received(), received(taken(3), bad(1, 16))])

    def test_long_rows_of_bytes(self):
        self.assertEqual(given_takes(EXAMPLE, CHORD_10 * 2571), [received(*[taken(10)] * 2571)])
        self.assertEqual(given_takes(EXAMPLE, [128] * 18000), [received(*[bad(2, place) for place in range(17999)])])
        self.assertEqual(given_takes(EXAMPLE, [127] * 18000), [received(*[bad(1, place) for place in range(18000)])])


if __name__ == "__main__":
    unittest.main()
