"""Section 2 and promise 4: write and read."""

import itertools
import random
import unittest

from asking import EXAMPLE, MIXED, PLAIN, REFUSED, ask, begin, fault, outline, read, text, write

# Banks that are empty, digits in each bank, a bar whose right keys all have digits.
BOARDS = {
    "example": (EXAMPLE, 6),
    "mixed": (MIXED, 8),
    "plain": (PLAIN, 5),
    "one key": (begin(0, 0, 0, "z"), 1),
    "bar alone": (begin(1, 0, 1, "#"), 1),
    "left alone": (begin(3, 0, 1, "#pq", [0, 0, 49]), 3),
    "middle alone": (begin(0, 3, 0, "pqr"), 3),
    "right alone": (begin(0, 0, 0, "pqr"), 3),
    "no middle": (begin(2, 0, 1, "#pq", [0, 0, 49]), 3),
    "right with digits": (begin(2, 1, 1, "#pmqr", [0, 0, 0, 49, 50]), 5),
    "right partly": (begin(2, 1, 1, "#pmpr", [0, 51, 0, 49, 0]), 5),
    "kin in bytes": (begin(2, 1, 0, "\u00e9\u00ea\u20ac\u20ad\U0001d11e\u00e9"), 6),
}


def written(call, size):
    """The text of each chord of a keyboard."""
    chords = range(1, 1 << size)
    given = ask(call, *[write(chord) for chord in chords])[1:]
    return {chord: bytes(answer[2:]) for chord, answer in zip(chords, given)}


def place_of_fault(texts, asked):
    """The greatest k for which the first k bytes begin some outline's text, by trying each."""
    begins = {whole[:length] for whole in texts for length in range(len(whole) + 1)}
    wholes = set(texts)

    def fits(length):
        parts = asked[:length].split(b"/")
        return len(parts) <= 10 and parts[-1] in begins and all(part in wholes for part in parts[:-1])

    return max(length for length in range(len(asked) + 1) if fits(length))


class Written(unittest.TestCase):
    def check(self, call, chords, expected):
        self.assertEqual(ask(call, write(*chords), read(expected))[1:], [text(expected), outline(*chords)])

    def test_examples(self):
        for chord, expected in ((10, "SA"), (34, "S-S"), (3, "1"), (1, "#"), (11, "15"), (32, "-S")):
            self.check(EXAMPLE, [chord], expected)

    def test_bar_and_digits(self):
        self.check(EXAMPLE, [1 | 16], "#-P")
        self.check(EXAMPLE, [1 | 2 | 16 | 32], "1-PS")
        self.check(EXAMPLE, [1 | 8 | 32], "5S")
        self.check(EXAMPLE, [63], "125PS")
        self.check(EXAMPLE, [62], "STAPS")
        self.check(MIXED, [1 | 2], "#k")
        self.check(MIXED, [1 | 2 | 4], "k2")
        self.check(MIXED, [1 | 64], "-6")
        self.check(MIXED, [1 | 2 | 128], "#k-\U0001d11e")
        self.check(MIXED, [1 | 16 | 64], "o6")
        self.check(MIXED, [1 | 16 | 128], "#o\U0001d11e")
        self.check(MIXED, [255], "k23o56\U0001d11e")
        self.check(MIXED, [254], "k\u00e9to\u20ack\U0001d11e")

    def test_banks(self):
        self.check(PLAIN, [1], "a")
        self.check(PLAIN, [8], "-a")
        self.check(PLAIN, [9], "a-a")
        self.check(PLAIN, [13], "axa")
        self.check(PLAIN, [12], "xa")
        self.check(PLAIN, [31], "abxac")
        self.check(begin(0, 0, 0, "pq"), [3], "-pq")
        self.check(begin(0, 2, 0, "pq"), [3], "pq")

    def test_outlines(self):
        self.check(EXAMPLE, [10, 34, 3], "SA/S-S/1")
        self.check(EXAMPLE, [1] * 10, "/".join(["#"] * 10))
        self.check(EXAMPLE, list(range(1, 11)), "#/S/1/T/2/ST/12/A/5/SA")

    def test_forty_eight_keys(self):
        labels = "".join(chr(number) for number in range(0x10000, 0x10030))
        call = begin(16, 16, 0, labels)
        self.check(call, [(1 << 48) - 1] * 10, "/".join([labels] * 10))
        self.check(call, [1 << 47, 1], "-" + labels[47] + "/" + labels[0])
        self.assertEqual(ask(call, write(1 << 48), write(2**53 - 1))[1:], [REFUSED, REFUSED])

    def test_characters_of_one_to_four_bytes(self):
        for label in (33, 126, 128, 0xFF, 0x100, 0x7FF, 0x800, 0xFFF, 0x1000, 0xABCD, 0xD7FF, 0xE000, 0xFFFF, 0x10000,
                      0x12345, 0x3FFFF, 0x40000, 0xFFFFF, 0x100000, 0x10FFFF):
            self.check(begin(1, 0, 0, [label]), [1, 1], chr(label) + "/" + chr(label))

    def test_refused(self):
        for chords in ([], [1] * 11, [1] * 20, [0], [64], [2**53 - 1], [1, 0], [63, 64, 1]):
            self.assertEqual(ask(EXAMPLE, write(*chords))[1:], [REFUSED], chords)

    def test_each_outline_has_one_text_that_is_read_back(self):
        for name, (call, size) in BOARDS.items():
            texts = written(call, size)
            self.assertEqual(len(set(texts.values())), len(texts), name)
            given = ask(call, *[read(whole) for whole in texts.values()])[1:]
            self.assertEqual(given, [outline(chord) for chord in texts], name)

    def test_rows_of_chords_are_read_back(self):
        source = random.Random(2)
        for name, (call, size) in BOARDS.items():
            for turn in range(20):
                chords = [source.randrange(1, 1 << size) for one in range(source.randint(1, 10))]
                answer = ask(call, write(*chords))[1]
                self.assertEqual(ask(call, read(bytes(answer[2:])))[1], outline(*chords), name)


class Faults(unittest.TestCase):
    def check(self, call, asked, place):
        self.assertEqual(ask(call, read(asked))[1], fault(place), asked)

    def test_examples(self):
        for asked, place in (("S-", 2), ("SS", 1), ("1#", 1), ("", 0), ("SA/", 3)):
            self.check(EXAMPLE, asked, place)

    def test_order(self):
        self.check(EXAMPLE, "TS", 1)
        self.check(EXAMPLE, "21", 1)
        self.check(EXAMPLE, "PS", 0)
        self.check(EXAMPLE, "-SP", 2)
        self.check(EXAMPLE, "S#", 1)
        self.check(PLAIN, "xb", 1)

    def test_dashes(self):
        self.check(EXAMPLE, "-", 1)
        self.check(EXAMPLE, "--S", 1)
        self.check(EXAMPLE, "A-P", 1)
        self.check(EXAMPLE, "5-P", 1)
        self.check(EXAMPLE, "-A", 1)
        self.check(EXAMPLE, "S-T", 2)
        self.check(EXAMPLE, "S-/S", 2)
        self.check(EXAMPLE, "AP-S", 2)
        self.check(begin(1, 1, 0, "pq"), "p-", 1)

    def test_a_dash_with_nothing_that_could_stand_behind_it(self):
        board = begin(2, 0, 1, "#pq", [0, 0, 49])
        self.check(board, "#-", 1)
        self.check(board, "-", 1)
        self.check(board, "p-", 2)

    def test_digits_and_labels(self):
        self.check(EXAMPLE, "#S", 1)
        self.check(EXAMPLE, "#1", 1)
        self.check(EXAMPLE, "##", 1)
        self.check(EXAMPLE, "1T", 1)
        self.check(EXAMPLE, "S2", 1)
        self.check(EXAMPLE, "9", 0)
        self.check(MIXED, "k2t", 2)
        self.check(MIXED, "#-k", 2)
        self.check(MIXED, "-k5", 2)
        self.check(PLAIN, "1", 0)
        self.check(PLAIN, "#", 0)
        for sign in ("\0", "0", "4", "9"):
            self.check(MIXED, sign, 0)
            self.check(MIXED, "k" + sign, 1)
            self.check(MIXED, "k2" + sign, 2)

    def test_slashes(self):
        self.check(EXAMPLE, "/", 0)
        self.check(EXAMPLE, "/S", 0)
        self.check(EXAMPLE, "S//S", 2)
        self.check(EXAMPLE, "/".join(["S"] * 11), 19)
        self.check(EXAMPLE, "/".join(["S"] * 10) + "/", 19)
        self.check(EXAMPLE, "/".join(["S"] * 10) + "TA/", 21)
        self.check(EXAMPLE, "/".join(["S"] * 9) + "/", 18)

    def test_within_a_character(self):
        self.check(MIXED, b"k\xc3", 2)
        self.check(MIXED, b"k\xc3\xaa", 2)
        self.check(MIXED, b"k\xc4\xa9", 1)
        self.check(MIXED, "o\u20ac".encode()[:3], 3)
        self.check(MIXED, "o\u20ac".encode()[:2] + b"\x83", 2)
        self.check(MIXED, "o\u20ac".encode()[:3] + b"o", 3)
        self.check(MIXED, "-\U0001d11e".encode()[:4], 4)
        self.check(MIXED, "-\U0001d11e".encode()[:2] + b"k", 2)
        self.check(MIXED, "-\U0001d11e".encode()[:4] + b"\x9f", 4)
        self.check(MIXED, b"\xff", 0)
        self.check(MIXED, b"k\x80", 1)
        self.check(MIXED, b"\xc1\xab", 0)

    def test_long_texts(self):
        self.assertEqual(ask(EXAMPLE, read("S" * 4096), read("S" * 4097))[1:], [fault(1), REFUSED])
        self.assertEqual(ask(EXAMPLE, read("9" * 4096), read("9" * 4097))[1:], [fault(0), REFUSED])
        self.assertEqual(ask(EXAMPLE, read([255] * 5000))[1:], [REFUSED])

    def test_all_short_texts(self):
        for name in ("example", "plain", "right with digits", "right partly", "no middle"):
            call, size = BOARDS[name]
            texts = written(call, size)
            signs = sorted(set(b"".join(texts.values())) | set(b"-/7\0"))
            asked = [bytes(row) for length in range(4) for row in itertools.product(signs, repeat=length)]
            self.compare(call, texts, asked)

    def test_texts_that_are_nearly_outlines(self):
        source = random.Random(3)
        for call, size in BOARDS.values():
            texts = written(call, size)
            signs = sorted(set(b"".join(texts.values())) | set(b"-/#\xc3\xff"))
            asked = []
            for turn in range(150):
                count = source.choice((1, 2, 9, 10, 11))
                whole = bytearray(b"/".join(source.choice(list(texts.values())) for one in range(count)))
                for change in range(source.randint(0, 2)):
                    place = source.randrange(len(whole) + 1)
                    whole[place:place + source.randint(0, 1)] = bytes([source.choice(signs)] * source.randint(0, 1))
                asked.append(bytes(whole))
            self.compare(call, texts, asked)

    def compare(self, call, texts, asked):
        chords = {whole: chord for chord, whole in texts.items()}
        place = 0
        while place < len(asked):
            some = asked[place:place + 100]
            for one, answer in zip(some, ask(call, *[read(one) for one in some])[1:]):
                parts = one.split(b"/")
                if len(parts) <= 10 and all(part in chords for part in parts):
                    self.assertEqual(answer, outline(*[chords[part] for part in parts]), one)
                else:
                    self.assertEqual(answer, fault(place_of_fault(texts.values(), one)), one)
            place += 100


if __name__ == "__main__":
    unittest.main()
