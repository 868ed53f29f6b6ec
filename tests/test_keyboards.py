"""Section 1 and the call begin: what is a keyboard, and what isn't."""

import unittest

from asking import BEGUN, EXAMPLE, MIXED, PLAIN, REFUSED, ask, begin, feed, held, policy, told, write

MANY = [chr(number) for number in range(0x100, 0x140)]


class Keyboards(unittest.TestCase):
    def taken(self, *handed):
        self.assertEqual(ask(begin(*handed)), [BEGUN], handed)

    def refused(self, *handed):
        self.assertEqual(ask(begin(*handed)), [REFUSED], handed)

    def test_ordinary(self):
        for call in (EXAMPLE, MIXED, PLAIN):
            self.assertEqual(ask(call), [BEGUN])

    def test_how_many_keys(self):
        self.taken(1, 0, 0, "a")
        self.taken(0, 0, 0, "a")
        self.taken(0, 1, 0, "a")
        self.taken(1, 0, 1, "#")
        self.taken(20, 8, 0, "".join(MANY[:48]))
        self.refused(20, 8, 0, "".join(MANY[:49]))
        self.refused(20, 8, 0, "".join(MANY[:60]))
        self.refused(0, 0, 0, "")

    def test_banks(self):
        self.taken(2, 1, 0, "abc")
        self.taken(0, 3, 0, "abc")
        self.refused(2, 2, 0, "abc")
        self.refused(4, 0, 0, "abc")
        self.refused(0, 4, 0, "abc")
        self.refused(2**53 - 1, 0, 0, "abc")
        self.refused(0, 2**53 - 1, 0, "abc")

    def test_lists_of_one_length(self):
        self.refused(1, 0, 0, "ab", [0])
        self.refused(1, 0, 0, "ab", [0, 0, 0])
        self.refused(1, 0, 0, "ab", [])
        self.refused(1, 0, 0, "", [0])

    def test_labels_that_may_be(self):
        for label in (33, 34, 36, 44, 46, 58, 126, 128, 0x7FF, 0x800, 0xD7FF, 0xE000, 0xFFFF, 0x10000, 0x10FFFF):
            self.taken(1, 0, 0, [label])

    def test_labels_that_may_not_be(self):
        never = [0, 10, 31, 32, 35, 45, 47, *range(48, 58), 127, 0xD800, 0xDBFF, 0xDC00, 0xDFFF, 0x110000, 2**53 - 1]
        for label in never:
            self.refused(0, 0, 0, [label])
            self.refused(1, 0, 0, [label])
            self.refused(1, 1, 1, [35, label, 97])
            self.refused(2, 1, 1, [35, label, 97])
            self.refused(1, 1, 1, [35, 97, label])

    def test_labels_that_differ(self):
        self.taken(2, 1, 0, "abxab")
        self.taken(2, 0, 0, "abba")
        self.refused(2, 1, 0, "aaxbc")
        self.refused(2, 1, 0, "abxcc")
        self.refused(1, 2, 0, "axxb")
        self.refused(2, 1, 0, "abbcd")
        self.refused(2, 1, 0, "abccd")
        self.refused(2, 1, 0, "abcdc")
        self.refused(2, 1, 0, "ababc")

    def test_bar(self):
        self.taken(2, 0, 1, "#ab")
        self.refused(2, 0, 2, "#ab")
        self.refused(2, 0, 2**53 - 1, "#ab")
        self.refused(0, 0, 1, "#ab")
        self.refused(0, 1, 1, "#ab")
        self.refused(2, 0, 1, "xab")
        self.refused(2, 0, 0, "#ab")
        self.refused(2, 0, 1, "##b")
        self.refused(2, 0, 1, "#a#")
        self.refused(0, 0, 1, "")

    def test_digits(self):
        self.taken(2, 1, 1, "#abc", [0, 48, 57, 52])
        self.taken(2, 1, 1, "#abc", [0, 0, 0, 49])
        self.taken(2, 1, 1, "#abc", [0, 0, 0, 0])
        self.refused(2, 1, 1, "#abc", [49, 0, 0, 0])
        self.refused(2, 1, 1, "#abc", [0, 49, 0, 49])
        self.refused(2, 1, 1, "#abc", [0, 49, 49, 0])
        self.refused(2, 1, 0, "dabc", [0, 49, 0, 0])
        for digit in (1, 9, 47, 58, 97, 2**53 - 1):
            self.refused(2, 1, 1, "#abc", [0, 0, digit, 0])
            self.refused(2, 1, 0, "dabc", [0, 0, digit, 0])

    def test_begins_anew(self):
        given = ask(
            EXAMPLE, policy(1, 7, 3), feed(50, (40, 1, 1)), held(), PLAIN, held(),
            feed(9, (3, 0, 1), (4, 1, 1), (5, 0, 0), (5, 0, 1), (6, 0, 0), (7, 1, 0)), write(9))
        self.assertEqual(given[3:7], [[0, 2], BEGUN, [0, 0], told((3, 7))])
        self.assertEqual(given[7], [0, 3, *b"a-a"])

    def test_way_and_bounce_of_a_new_beginning(self):
        given = ask(PLAIN, feed(20, (1, 0, 1), (20, 0, 0)), feed(20, (20, 0, 1)))
        self.assertEqual(given[1:], [told((1, 20)), told()])


if __name__ == "__main__":
    unittest.main()
