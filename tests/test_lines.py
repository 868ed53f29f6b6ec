"""The calls line and take: which line is received, and what begins it anew."""

import unittest

from asking import (BEGUN, EXAMPLE, NARROW, NOT_BEGUN, NUMBERED_LINE, PLAIN_LINE, REFUSED, ask, bad, begin, feed, frame,
                    frame_bytes, held, line, packet_bytes, policy, received, send, take, taken, told)

PACKET = packet_bytes(10)
FRAME = frame_bytes(5, 300, 10)


class Line(unittest.TestCase):
    def test_which(self):
        self.assertEqual(ask(EXAMPLE, line(0), line(1), line(2), line(3), line(2**53 - 1)),
                         [BEGUN, BEGUN, BEGUN, REFUSED, REFUSED, REFUSED])

    def test_the_plain_line_is_begun_with_the_keyboard(self):
        self.assertEqual(ask(EXAMPLE, take(PACKET), take(FRAME[:2]))[1:],
                         [received(taken(10)), received(bad(1, 7), bad(1, 8))])

    def test_which_line_is_received(self):
        given = ask(EXAMPLE, line(NUMBERED_LINE), take(FRAME), line(PLAIN_LINE), take(PACKET), line(NUMBERED_LINE),
                    take(PACKET), line(PLAIN_LINE), take([2, 5, 3]))
        self.assertEqual(given[2::2], [received(taken(10, 300)), received(taken(10)),
                                       received(*[bad(1, place) for place in range(7)]),
                                       received(*[bad(1, place) for place in range(3)])])

    def test_begun_anew_in_the_midst_of_a_packet(self):
        for cut in range(8):
            given = ask(EXAMPLE, take(PACKET[:cut]), line(PLAIN_LINE), take([5] + PACKET), line(PLAIN_LINE),
                        take([128] + PACKET))
            self.assertEqual(given[3::2], [received(bad(1, 0), taken(10)), received(bad(2, 0), taken(10))])

    def test_begun_anew_in_the_midst_of_a_frame(self):
        start = [EXAMPLE, line(NUMBERED_LINE)]
        for cut in range(len(FRAME)):
            given = ask(*start, take(FRAME[:cut]), line(NUMBERED_LINE), take([16, 9] + FRAME))
            self.assertEqual(given[4], received(bad(1, 0), bad(1, 1), taken(10, 300)), cut)
        given = ask(*start, take([2, 16]), line(NUMBERED_LINE), take([34, 2, 34, 3]))
        self.assertEqual(given[4], received(bad(1, 0), bad(5, 1)))

    def test_no_number_is_awaited_behind_it(self):
        given = ask(EXAMPLE, line(NUMBERED_LINE), take(FRAME + FRAME), line(NUMBERED_LINE), take(FRAME),
                    line(PLAIN_LINE), line(NUMBERED_LINE), take(frame_bytes(9, 1, 1)), EXAMPLE, line(NUMBERED_LINE),
                    take(FRAME))
        self.assertEqual([given[place] for place in (2, 4, 7, 10)],
                         [received(taken(10, 300), bad(9, len(FRAME))), received(taken(10, 300)),
                          received(taken(1, 1)), received(taken(10, 300))])

    def test_a_refused_line_begins_nothing(self):
        given = ask(EXAMPLE, take(PACKET[:4]), line(2), take(PACKET[4:] + [0]), line(NUMBERED_LINE), take(FRAME[:4]),
                    line(9), take(FRAME[4:] + FRAME))
        self.assertEqual([given[3], given[7]], [received(taken(10), bad(1, 7)),
                                                received(taken(10, 300), bad(9, len(FRAME)))])


class Begin(unittest.TestCase):
    def test_begin_in_the_midst_of_a_packet(self):
        given = ask(EXAMPLE, take([1] + PACKET[:4]), EXAMPLE, take([5] + PACKET))
        self.assertEqual(given[3], received(bad(1, 0), taken(10)))

    def test_begin_in_the_midst_of_a_frame(self):
        given = ask(EXAMPLE, line(NUMBERED_LINE), take([9] + FRAME[:4]), EXAMPLE, take([2] + PACKET + [2]))
        self.assertEqual(given[4], received(bad(1, 0), taken(10), bad(1, 8)))

    def test_a_refused_begin(self):
        for wrong in (begin(2, 0, 0, "aa"), begin(0, 0, 0, ""), begin(1, 0, 0, "ab", [0])):
            given = ask(EXAMPLE, take(PACKET[:4]), wrong, take(PACKET[4:] + [0]), line(NUMBERED_LINE), take(FRAME[:5]),
                        wrong, take(FRAME[5:] + FRAME))
            self.assertEqual([given[3], given[7]], [received(taken(10), bad(1, 7)),
                                                    received(taken(10, 300), bad(9, len(FRAME)))])

    def test_another_keyboard(self):
        given = ask(EXAMPLE, take(PACKET + packet_bytes(1)), NARROW, take(PACKET + packet_bytes(1)),
                    line(NUMBERED_LINE), take(FRAME + frame_bytes(6, 1, 1)), EXAMPLE, take(PACKET))
        self.assertEqual(given[1::2], [received(taken(10), taken(1)), received(bad(4, 0), taken(1)),
                                       received(bad(8, 0), taken(1, 1)), received(taken(10))])


class OtherCalls(unittest.TestCase):
    def test_policies_and_feeds_leave_the_line_as_it_was(self):
        others = [policy(1, 5), feed(9, (9, 1, 1)), held(), send(9), frame(1, 1, 1), policy(9, 9)]
        given = ask(EXAMPLE, line(NUMBERED_LINE), take(FRAME[:3]), *others, take(FRAME[3:]))
        self.assertEqual(given[-1], received(taken(10, 300)))

    def test_lines_leave_the_keys_as_they_were(self):
        lines = [line(NUMBERED_LINE), take(FRAME), line(PLAIN_LINE), take(PACKET), line(2)]
        given = ask(EXAMPLE, policy(0, 5), feed(9, (8, 1, 1), (9, 1, 0)), *lines, held(), feed(14), feed(13))
        self.assertEqual(given[-3:], [[0, 0], told((2, 9)), REFUSED])


class BeforeBegin(unittest.TestCase):
    def test_line_and_take(self):
        calls = [line(0), line(1), line(2), take([]), take(PACKET)]
        self.assertEqual(ask(*calls), [NOT_BEGUN] * 5)
        for call in calls:
            self.assertEqual(ask(call), [NOT_BEGUN])
            self.assertEqual(ask(begin(0, 0, 0, ""), call), [REFUSED, NOT_BEGUN])

    def test_what_was_asked_before_begin_changes_nothing(self):
        given = ask(line(NUMBERED_LINE), take(PACKET[:3]), EXAMPLE, take(PACKET[3:]))
        self.assertEqual(given, [NOT_BEGUN, NOT_BEGUN, BEGUN, received(*[bad(1, place) for place in range(4)])])


if __name__ == "__main__":
    unittest.main()
