"""Section 4: two rows of events made one."""

import random
import unittest

from asking import ALL_UP, BEGUN, EXAMPLE, REFUSED, ask, counted, feed, feed_numbers, held, merge, numbers_of, policy, told

GREATEST = 2**53 - 1


class Merge(unittest.TestCase):
    def check(self, first, second, both):
        self.assertEqual(ask(merge(first, second)), [counted(both)], (first, second))

    def test_ordinary(self):
        self.check([1, 7, 5, 6, 9, 3], [2, 8, 3, 9, 8, 1], [1, 7, 2, 8, 3, 9, 5, 6, 8, 1, 9, 3])
        self.check([1, 7, 2, 6], [3, 1, 4, 0], [1, 7, 2, 6, 3, 1, 4, 0])
        self.check([3, 1, 4, 0], [1, 7, 2, 6], [1, 7, 2, 6, 3, 1, 4, 0])
        self.check([2, 9], [1, 8, 3, 7], [1, 8, 2, 9, 3, 7])

    def test_the_same_ticks(self):
        self.check([5, 9], [5, 1], [5, 9, 5, 1])
        self.check([5, 1], [5, 9], [5, 1, 5, 9])
        self.check([0, 3], [0, 2], [0, 3, 0, 2])
        self.check([5, 9, 5, 8, 7, 0], [5, 1, 5, 2, 7, 1, 7, 0], [5, 9, 5, 8, 5, 1, 5, 2, 7, 0, 7, 1, 7, 0])
        self.check([4, 1, 5, 1], [5, 1, 5, 1, 6, 1], [4, 1, 5, 1, 5, 1, 5, 1, 6, 1])

    def test_empty_rows(self):
        self.check([], [], [])
        self.check([3, 5, 3, 4], [], [3, 5, 3, 4])
        self.check([], [3, 5, 3, 4], [3, 5, 3, 4])

    def test_ticks_and_keys_of_any_size(self):
        self.check([2**40, 12345678, GREATEST, GREATEST], [0, GREATEST, 2**40 - 1, 96, 2**40, 97, GREATEST, 0],
                   [0, GREATEST, 2**40 - 1, 96, 2**40, 12345678, 2**40, 97, GREATEST, GREATEST, GREATEST, 0])

    def test_the_same_with_a_keyboard(self):
        # Keys that it has, and others; ticks below the now told last.
        calls = [merge([5, 3, 9, 2], [5, 13, 6, GREATEST]), merge([3, 1], []), merge([1], [])]
        self.assertEqual(ask(EXAMPLE, policy(ALL_UP, 3), feed(100, (99, 1, 1)), *calls)[3:], ask(*calls))

    def test_refused(self):
        for first, second in (([1], []), ([], [1]), ([1, 2, 3], [1, 2]), ([1, 2], [1, 2, 3]), ([1], [1]),
                              ([2, 0, 1, 0], []), ([], [2, 0, 1, 0]), ([1, 0, 5, 0, 4, 9], [1, 0]),
                              ([1, 0], [1, 0, 5, 0, 4, 9]), ([GREATEST, 0, 0, 0], [5, 5]), ([1, 0, 0, 0], [2]),
                              ([1, 0, 3, 0, 2, 0, 4, 0], [])):
            self.assertEqual(ask(merge(first, second)), [REFUSED], (first, second))

    def test_no_call_by_it_and_nothing_begun(self):
        given = ask(merge([1, 3, 2, 2], []), held(), EXAMPLE, merge([1, 3], [2, 5]), held(), merge([9, 1, 8, 1], []),
                    feed(0, (0, 1, 1)), held())
        self.assertEqual(given[1:], [[-9], BEGUN, counted([1, 3, 2, 5]), [0, 0], REFUSED, told(), [0, 2]])

    def test_some_rows(self):
        source = random.Random(4)
        for turn in range(150):
            rows = []
            for which in (0, 1):
                events = [(source.randrange(12), source.randrange(100)) for one in range(source.randrange(15))]
                rows.append(sorted(events, key=lambda event: event[0]))
            # A sort that lets what is equal stay in its order.
            both = sorted(rows[0] + rows[1], key=lambda event: event[0])
            self.check(*[[number for event in row for number in event] for row in (*rows, both)])

    def test_long_rows(self):
        even = [number for tick in range(0, 9000, 2) for number in (tick, 1)]
        odd = [number for tick in range(1, 9001, 2) for number in (tick, 0)]
        both = [number for tick in range(9000) for number in (tick, 1 - tick % 2)]
        self.check(even, odd, both)
        self.check(odd, even, both)
        self.check(odd, odd, [number for tick in range(1, 9001, 2) for number in (tick, 0) * 2])
        self.check(even, [], even)

    def test_two_halves_fed(self):
        left = numbers_of([(1, 1, 1), (4, 1, 0), (10, 2, 1), (12, 2, 0)])
        right = numbers_of([(2, 5, 1), (4, 5, 0), (12, 4, 1), (13, 4, 0)])
        both = ask(merge(left, right))[0][2:]
        self.assertEqual(ask(EXAMPLE, feed_numbers(20, both))[1], told((34, 4), (4, 12), (16, 13)))


if __name__ == "__main__":
    unittest.main()
