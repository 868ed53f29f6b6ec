"""How calls are handed in and answers given back, and what is answered before begin."""

import unittest

from asking import (BEGUN, EXAMPLE, NOT_BEGUN, PLAIN, REFUSED, ask, begin, counted, fault, feed, feed_numbers, frame,
                    frame_bytes, held, line, merge, outline, policy, read, send, take, text, told, write)
from strokehall.keyboard import answers

CALLS = [
    0, 3, 1, 1, 6, 35, 83, 84, 65, 80, 83, 6, 0, 49, 50, 53, 0, 0,
    1, 0, 5, 1,
    2, 51, 12, 10, 3, 12, 7, 30, 2, 33, 3, 50, 2, 51, 6,
    2, 60, 0,
    3,
    4, 2, 10, 34,
    5, 6, 83, 65, 47, 83, 45, 83,
    5, 2, 83, 45,
    4, 0,
    5, 0,
    6, 4, 3, 1, 5, 0, 2, 4, 9,
    6, 0, 0,
    6, 1, 3, 0,
    7, 10,
    7, 0,
    8, 2, 3, 16,
    8, 256, 0, 1,
    10, 10, 5, 130, 128, 0, 0, 0, 0, 0, 10, 9,
    9, 1,
    10, 12, 2, 0, 0, 10, 0, 0, 0, 0, 0, 183, 60, 3,
    10, 0,
    9, 2,
]
ANSWERS = [
    1, 0,
    1, 0,
    2, 0, 0,
    4, 0, 2, 10, 51,
    2, 0, 0,
    8, 0, 6, 83, 65, 47, 83, 45, 83,
    4, 0, 2, 10, 34,
    2, -2, 2,
    1, -1,
    2, -2, 0,
    8, 0, 6, 3, 1, 4, 9, 5, 0,
    2, 0, 0,
    1, -1,
    9, 0, 7, 128, 0, 0, 0, 0, 0, 10,
    1, -1,
    17, 0, 15, 2, 16, 34, 16, 35, 16, 48, 0, 0, 0, 0, 0, 124, 158, 3,
    1, -1,
    18, 0, 16, 1, 0, 0, 0, 2, 1, 0, 0, 0, 10, 0, 0, 1, 9, 0, 0,
    1, 0,
    6, 0, 4, 0, 10, 0, 0,
    2, 0, 0,
    1, -1,
]


class Interface(unittest.TestCase):
    def test_number_by_number(self):
        self.assertEqual(answers(CALLS), ANSWERS)

    def test_what_was_handed_in_stays(self):
        calls = list(CALLS)
        answers(calls)
        self.assertEqual(calls, CALLS)

    def test_never_changed_meanwhile(self):
        class Unchanging(list):
            def refuse(self, *handed, **named):
                raise AssertionError("what was handed in is changed")
            append = clear = extend = insert = pop = remove = reverse = sort = refuse
            __setitem__ = __delitem__ = __iadd__ = __imul__ = refuse

        self.assertEqual(answers(Unchanging(CALLS)), ANSWERS)

    def test_nothing_is_kept(self):
        self.assertEqual(answers(CALLS), answers(CALLS))
        self.assertEqual(answers([3]), [1, -9])
        answers(CALLS)[:] = []
        self.assertEqual(answers(CALLS), ANSWERS)

    def test_whole_numbers_in_a_list(self):
        given = answers(CALLS)
        self.assertIs(type(given), list)
        self.assertEqual({type(number) for number in given}, {int})

    def test_whole_numbers_where_calls_are_refused(self):
        calls = held(), EXAMPLE, feed(2**40), read("x"), merge([1], []), send(0), frame(256, 0, 0), line(2)
        given = answers([number for call in calls for number in call])
        self.assertEqual({type(number) for number in given}, {int})

    def test_300_calls(self):
        self.assertEqual(ask(EXAMPLE, *[held()] * 299), [BEGUN] + [[0, 0]] * 299)

    def test_long_lists_of_calls(self):
        news = [(place, 1, 1 - place % 2) for place in range(4096)]
        strokes = [(2, place) for place in range(1, 4096, 2)]
        later = [(tick + 4096, key, down) for tick, key, down in news]
        self.assertEqual(ask(EXAMPLE, feed(4096, *news), feed(8192, *later)),
                         [BEGUN, told(*strokes), told(*[(2, tick + 4096) for chord, tick in strokes])])


class BeforeBegin(unittest.TestCase):
    def test_nothing_is_begun(self):
        calls = [policy(0, 0), feed(0), held(), write(1), read("S"), line(0), take([1])]
        self.assertEqual(ask(*calls), [NOT_BEGUN] * 7)
        for call in calls:
            self.assertEqual(ask(call), [NOT_BEGUN])

    def test_what_needs_no_keyboard(self):
        calls = [merge([1, 5], [0, 7]), send(2**48 - 1), frame(0, 0, 10), merge([1], []), send(0), frame(0, 2**28, 1)]
        wanted = [counted([0, 7, 1, 5]), counted([191] + [127] * 6), counted(frame_bytes(0, 0, 10)),
                  REFUSED, REFUSED, REFUSED]
        self.assertEqual(ask(*calls), wanted)
        for call, one in zip(calls, wanted):
            self.assertEqual(ask(call), [one])
            self.assertEqual(ask(begin(0, 0, 0, ""), call, held(), EXAMPLE, call),
                             [REFUSED, one, NOT_BEGUN, BEGUN, one])

    def test_ahead_of_every_other_refusal(self):
        self.assertEqual(
            ask(policy(9, 9999, 0), feed(2**53 - 1), feed_numbers(0, [5]), write(), read([0] * 5000), read(""), line(2)),
            [NOT_BEGUN] * 7)

    def test_a_refused_begin_begins_nothing(self):
        self.assertEqual(ask(begin(0, 0, 0, ""), held(), EXAMPLE, held()), [REFUSED, NOT_BEGUN, BEGUN, [0, 0]])

    def test_what_was_asked_before_begin_changes_nothing(self):
        self.assertEqual(ask(policy(1, 9), feed(9, (9, 1, 1)), EXAMPLE, held(), feed(1, (0, 1, 1), (0, 1, 0))),
                         [NOT_BEGUN, NOT_BEGUN, BEGUN, [0, 0], told((2, 0))])

    def test_a_refused_begin_behind_one_that_was_not(self):
        given = ask(EXAMPLE, policy(1, 5), feed(20, (10, 1, 1), (20, 1, 0)), begin(2, 0, 0, "aa"), held(),
                    feed(19), feed(25, (25, 3, 1)), held(), write(10), read("-S"), PLAIN, read("-S"), held())
        self.assertEqual(given, [BEGUN, BEGUN, told(), REFUSED, [0, 0], REFUSED, told((2, 20)), [0, 8],
                                 text("SA"), outline(32), BEGUN, fault(1), [0, 0]])


if __name__ == "__main__":
    unittest.main()
