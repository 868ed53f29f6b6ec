"""Section 3: events, bounces, unsure ups, the three ways, and when a stroke is told."""

import unittest

from asking import (ALL_UP, BEGUN, BY_TIME, EXAMPLE, FIRST_UP, PLAIN, REFUSED, TOO_MANY_WAIT,
                    ask, begin, feed, feed_numbers, held, policy, told)

S, T, A, P = 1, 2, 3, 4
LAST_TICK = 2**40 - 1
NEWS = ((10, S, 1), (12, A, 1), (30, S, 0), (33, S, 1), (50, S, 0), (51, A, 0))


def fed(rule, *feeds):
    """What each feed is answered behind a policy."""
    return ask(EXAMPLE, rule, *feeds)[2:]


class Policies(unittest.TestCase):
    def test_bounds(self):
        for asked in ((0, 0, 1), (1, 1000, 10000), (2, 1, 1), (2, 1000, 10000)):
            self.assertEqual(ask(EXAMPLE, policy(*asked)), [BEGUN, BEGUN], asked)
        for asked in ((3, 0, 1), (0, 1001, 1), (0, 0, 0), (2, 0, 0), (0, 0, 10001), (2**53 - 1, 0, 1),
                      (0, 2**53 - 1, 1), (0, 0, 2**53 - 1), (3, 1001, 0)):
            self.assertEqual(ask(EXAMPLE, policy(*asked)), [BEGUN, REFUSED], asked)

    def test_all_keys_are_up_again_and_now_stays(self):
        given = fed(
            policy(ALL_UP, 0), feed(20, (5, S, 1), (6, A, 1)), held(), policy(ALL_UP, 0), held(),
            feed(19), feed(25, (19, T, 1)), feed(25, (20, S, 0), (21, T, 1), (22, T, 0)))
        self.assertEqual(given, [told(), [0, 10], BEGUN, [0, 0], REFUSED, REFUSED, told((4, 22))])

    def test_no_news_was(self):
        given = fed(
            policy(ALL_UP, 50), feed(20, (5, S, 1), (6, S, 0)), policy(ALL_UP, 50), feed(100),
            feed(200, (100, S, 1), (110, S, 0)))
        self.assertEqual(given, [told(), BEGUN, told(), told((2, 110))])

    def test_an_up_before_a_policy_is_no_bounce_behind_it(self):
        given = fed(
            policy(ALL_UP, 50), feed(20, (5, S, 1), (6, S, 0)), policy(ALL_UP, 5),
            feed(40, (21, S, 1), (22, S, 0)))
        self.assertEqual(given[-1], told((2, 22)))

    def test_no_stroke_over_a_policy(self):
        for way in (ALL_UP, FIRST_UP, BY_TIME):
            given = fed(policy(way, 0, 10), feed(8, (5, S, 1)), policy(way, 0, 10), feed(30), feed(30, (30, S, 0)))
            self.assertEqual(given, [told(), BEGUN, told(), told()], way)


class Held(unittest.TestCase):
    def test_as_news_came(self):
        given = fed(
            policy(ALL_UP, 100), held(), feed(10, (1, S, 1), (2, A, 1)), held(), feed(10, (10, S, 0)), held(),
            feed(11, (11, S, 1)), held(), feed(12, (12, S, 1), (12, P, 0)), held(), feed(13, (13, S, 0), (13, A, 0)),
            held(), feed(500), held())
        self.assertEqual(given[::2], [[0, 0], [0, 10], [0, 8], [0, 10], [0, 10], [0, 0], [0, 0]])

    def test_before_a_policy(self):
        self.assertEqual(ask(EXAMPLE, feed(1, (1, 5, 1)), held())[2], [0, 32])

    def test_the_last_of_48_keys(self):
        board = begin(48, 0, 0, "".join(chr(number) for number in range(0x100, 0x130)))
        given = ask(board, feed(2, (1, 47, 1), (1, 0, 1)), held(), feed(2, (2, 48, 1)), feed(3, (3, 47, 0), (3, 0, 0)))
        self.assertEqual(given[1:], [told(), [0, 2**47 + 1], REFUSED, told((2**47 + 1, 3))])


class AllUp(unittest.TestCase):
    def test_examples(self):
        self.assertEqual(fed(policy(ALL_UP, 5), feed(51, *NEWS), feed(60)), [told(), told((10, 51))])
        self.assertEqual(fed(policy(ALL_UP, 0), feed(51, *NEWS)), [told((10, 51))])
        self.assertEqual(ask(EXAMPLE, feed(51, *NEWS))[1], told((10, 51)))

    def test_strokes_in_a_row(self):
        news = (1, S, 1), (2, T, 1), (3, S, 0), (4, A, 1), (5, A, 0), (6, T, 0), (7, P, 1), (7, P, 0), (8, S, 1)
        self.assertEqual(fed(policy(ALL_UP, 0), feed(9, *news)), [told((14, 6), (16, 7))])

    def test_news_that_changes_nothing(self):
        news = (1, S, 0), (2, S, 1), (3, S, 1), (4, T, 0), (5, S, 0), (6, S, 0), (7, T, 0)
        self.assertEqual(fed(policy(ALL_UP, 0), feed(9, *news)), [told((2, 5))])

    def test_several_events_with_one_tick(self):
        news = (1, S, 1), (1, T, 1), (4, S, 0), (4, A, 1), (4, T, 0), (4, A, 0), (4, S, 1), (4, S, 0)
        self.assertEqual(fed(policy(ALL_UP, 0), feed(4, *news)), [told((14, 4), (2, 4))])
        given = fed(policy(ALL_UP, 0), *[feed(event[0], event) for event in news])
        self.assertEqual(given, [told()] * 5 + [told((14, 4)), told(), told((2, 4))])

    def test_told_as_soon_as_it_is_certain(self):
        given = fed(policy(ALL_UP, 5), feed(20, (10, S, 1), (20, S, 0)), feed(24), feed(25), feed(30))
        self.assertEqual(given, [told(), told(), told((2, 20)), told()])


class FirstUp(unittest.TestCase):
    def test_ordinary(self):
        news = (1, S, 1), (2, T, 1), (5, S, 0), (6, T, 0)
        self.assertEqual(fed(policy(FIRST_UP, 0), feed(9, *news)), [told((6, 5))])

    def test_a_key_goes_down_again_while_others_stay_down(self):
        news = (1, S, 1), (2, T, 1), (5, S, 0), (6, S, 1), (7, T, 0), (8, S, 0), (9, A, 1), (9, A, 0)
        self.assertEqual(fed(policy(FIRST_UP, 0), feed(9, *news)), [told((6, 5), (6, 7), (8, 9))])

    def test_with_bounces(self):
        news = (10, S, 1), (12, T, 1), (15, S, 0), (17, S, 1), (20, T, 0), (25, S, 0)
        self.assertEqual(fed(policy(FIRST_UP, 3), feed(22, *news[:-1]), feed(23), feed(40, *news[-1:])),
                         [told(), told((6, 20)), told()])
        self.assertEqual(fed(policy(FIRST_UP, 2), feed(40, *news)), [told((6, 15), (6, 20))])


class ByTime(unittest.TestCase):
    def test_ordinary(self):
        given = fed(policy(BY_TIME, 0, 10), feed(5, (3, S, 1), (5, T, 1)), feed(14), feed(15), feed(30))
        self.assertEqual(given, [told(), told(), told((6, 15)), told()])

    def test_a_key_that_goes_down_at_the_very_tick(self):
        for news in ([(5, S, 1), (15, T, 1)], [(5, S, 1), (15, S, 0), (15, S, 1)], [(5, S, 1), (6, S, 0), (15, T, 1)]):
            key = 1 << news[-1][1]
            self.assertEqual(fed(policy(BY_TIME, 0, 10), feed(25, *news)), [told((2, 15), (key, 25))])
        given = fed(policy(BY_TIME, 0, 10), feed(5, (5, S, 1)), feed(15), feed(15, (15, T, 1)), feed(25))
        self.assertEqual(given, [told(), told((2, 15)), told(), told((4, 25))])

    def test_a_key_that_goes_down_one_tick_sooner(self):
        self.assertEqual(fed(policy(BY_TIME, 0, 10), feed(24, (5, S, 1), (14, T, 1)), feed(25)),
                         [told((6, 24)), told()])

    def test_ups_do_not_matter(self):
        self.assertEqual(fed(policy(BY_TIME, 0, 10), feed(99, (5, S, 1), (6, S, 0), (12, T, 1), (50, T, 0))),
                         [told((6, 22))])

    def test_a_key_that_goes_down_twice(self):
        self.assertEqual(fed(policy(BY_TIME, 0, 10), feed(99, (5, S, 1), (6, S, 0), (12, S, 1))), [told((2, 22))])

    def test_gap_bounds(self):
        self.assertEqual(fed(policy(BY_TIME, 0, 1), feed(6, (5, S, 1), (6, T, 1))), [told((2, 6))])
        self.assertEqual(fed(policy(BY_TIME, 0, 10000), feed(10004, (5, S, 1)), feed(10005)),
                         [told(), told((2, 10005))])

    def test_with_bounces(self):
        # The down at 8 is none: gap ticks are over since the down at 5.
        given = fed(policy(BY_TIME, 4, 10), feed(15, (5, S, 1), (7, S, 0), (8, S, 1)))
        self.assertEqual(given, [told((2, 15))])

    def test_no_tick_past_an_unsure_up_counts(self):
        given = fed(policy(BY_TIME, 100, 10), feed(15, (5, S, 1), (14, S, 0)), feed(113), feed(114))
        self.assertEqual(given, [told(), told(), told((2, 15))])
        given = fed(policy(BY_TIME, 100, 10), feed(15, (5, S, 1), (15, S, 0)))
        self.assertEqual(given, [told((2, 15))])
        given = fed(policy(BY_TIME, 100, 10), feed(20, (5, S, 1), (14, S, 0)), feed(20, (20, S, 1)))
        self.assertEqual(given, [told(), told((2, 15))])


class Bounces(unittest.TestCase):
    def test_a_down_exactly_bounce_behind_an_up_and_one_tick_sooner(self):
        news = (10, S, 1), (20, S, 0), (25, S, 1), (40, S, 0)
        self.assertEqual(fed(policy(ALL_UP, 5), feed(99, *news)), [told((2, 20), (2, 40))])
        self.assertEqual(fed(policy(ALL_UP, 6), feed(99, *news)), [told((2, 40))])

    def test_now_exactly_bounce_behind_an_up(self):
        for way in (ALL_UP, FIRST_UP):
            given = fed(policy(way, 1000), feed(20, (10, S, 1), (20, S, 0)), feed(1019), feed(1020))
            self.assertEqual(given, [told(), told(), told((2, 20))])

    def test_a_down_in_a_later_feed(self):
        given = fed(policy(ALL_UP, 5), feed(20, (10, S, 1), (20, S, 0)), feed(24, (24, S, 1)), feed(50),
                    feed(60, (51, S, 0)))
        self.assertEqual(given, [told(), told(), told(), told((2, 51))])

    def test_a_down_right_when_the_up_is_sure(self):
        given = fed(policy(ALL_UP, 5), feed(20, (10, S, 1), (20, S, 0)), feed(25, (25, S, 1)), feed(60, (51, S, 0)))
        self.assertEqual(given, [told(), told((2, 20)), told((2, 51))])

    def test_many_in_a_row(self):
        news = (10, S, 1), (11, S, 0), (12, S, 1), (13, S, 0), (14, S, 1), (20, S, 0), (22, S, 1), (30, S, 0)
        self.assertEqual(fed(policy(ALL_UP, 3), feed(33, *news)), [told((2, 30))])

    def test_what_changes_nothing_is_not_the_down(self):
        # The second up is none, and the first one is 5 ticks ahead of the down.
        news = (10, S, 1), (20, S, 0), (23, S, 0), (25, S, 1), (40, S, 0)
        self.assertEqual(fed(policy(ALL_UP, 5), feed(99, *news)), [told((2, 20), (2, 40))])

    def test_nothing_behind_an_unsure_up_counts_yet(self):
        # T's news is certain by itself from the beginning on; S's up ahead of it is not.
        news = (10, S, 1), (20, S, 0), (20, T, 1), (21, T, 0), (22, T, 1), (26, T, 0)
        self.assertEqual(fed(policy(ALL_UP, 10), feed(29, *news), feed(30), feed(35), feed(36)),
                         [told(), told((2, 20)), told(), told((4, 26))])
        news = (10, S, 1), (10, T, 1), (20, S, 0), (21, T, 0), (22, S, 1)
        self.assertEqual(fed(policy(FIRST_UP, 10), feed(22, *news), feed(30), feed(31)),
                         [told(), told(), told((6, 21))])

    def test_none_with_bounce_0(self):
        self.assertEqual(fed(policy(ALL_UP, 0), feed(5, (5, S, 1), (5, S, 0), (5, S, 1), (5, S, 0))),
                         [told((2, 5), (2, 5))])


class Refusals(unittest.TestCase):
    def refused(self, now, *events):
        given = fed(policy(ALL_UP, 0), feed(100), feed(now, *events))
        self.assertEqual(given[1], REFUSED, (now, events))

    def test_ticks_and_now(self):
        self.refused(99)
        self.refused(99, (99, S, 1))
        self.refused(110, (99, S, 1))
        self.refused(110, (0, S, 0))
        self.refused(110, (111, S, 1))
        self.refused(110, (105, S, 1), (104, T, 1))
        self.refused(110, (105, S, 1), (111, T, 1), (106, P, 1))

    def test_ticks_that_are_in_order(self):
        given = fed(policy(ALL_UP, 0), feed(100), feed(100, (100, S, 1)), feed(110, (100, T, 1), (110, P, 1)))
        self.assertEqual(given, [told()] * 3)

    def test_the_greatest_tick(self):
        given = fed(policy(ALL_UP, 0), feed(LAST_TICK, (LAST_TICK, S, 1), (LAST_TICK, S, 0)), feed(LAST_TICK))
        self.assertEqual(given, [told((2, LAST_TICK)), told()])
        self.refused(LAST_TICK + 1)
        self.refused(2**53 - 1)
        self.refused(LAST_TICK + 1, (LAST_TICK, S, 1))
        self.refused(LAST_TICK, (LAST_TICK + 1, S, 1))
        self.refused(LAST_TICK + 1, (LAST_TICK + 1, S, 1))

    def test_no_stroke_past_the_greatest_tick(self):
        rule = policy(BY_TIME, 1000, 5)
        self.assertEqual(fed(rule, feed(LAST_TICK, (LAST_TICK - 4, S, 1)), feed(LAST_TICK)), [told(), told()])
        self.assertEqual(fed(rule, feed(LAST_TICK, (LAST_TICK - 5, S, 1))), [told((2, LAST_TICK))])

    def test_keys(self):
        self.refused(110, (105, 6, 0))
        self.refused(110, (105, 6, 1))
        self.refused(110, (105, 2**52 - 1, 1))
        self.assertEqual(ask(PLAIN, feed(1, (1, 4, 1)), feed(1, (1, 5, 0)))[1:], [told(), REFUSED])
        self.assertEqual(ask(begin(0, 0, 0, "z"), feed(1, (1, 0, 1)), feed(1, (1, 1, 1)))[1:], [told(), REFUSED])

    def test_odd(self):
        self.assertEqual(fed(policy(ALL_UP, 0), feed_numbers(9, [1]), feed_numbers(9, [1, 3, 2])), [REFUSED] * 2)

    def test_most_events(self):
        news = [(place, S, 1 - place % 2) for place in range(4097)]
        strokes = [(2, place) for place in range(1, 4096, 2)]
        self.assertEqual(fed(policy(ALL_UP, 0), feed(5000, *news[:4096])), [told(*strokes)])
        self.assertEqual(fed(policy(ALL_UP, 0), feed(5000, *news)), [REFUSED])
        same = [(1, S, 1)] * 4097
        self.assertEqual(fed(policy(ALL_UP, 0), feed(5000, *same[1:]), feed_numbers(5000, [1, 3] * 4097)),
                         [told(), REFUSED])


class Waiting(unittest.TestCase):
    def waiting(self, count):
        """News of which just so many events wait behind an unsure up, that of S, it too."""
        return [(10, S, 1), (20, S, 0), *[(20, T, 1 - place % 2) for place in range(count - 1)]]

    def test_1024_and_1025(self):
        rule = policy(ALL_UP, 100)
        self.assertEqual(fed(rule, feed(20, *self.waiting(1024))), [told()])
        self.assertEqual(fed(rule, feed(20, *self.waiting(1025))), [TOO_MANY_WAIT])

    def test_over_several_feeds(self):
        news = self.waiting(1026)
        given = fed(policy(ALL_UP, 100), feed(20, *news[:600]), feed(20, *news[600:1026]), held(),
                    feed(20, *news[600:1025]), held(), feed(20, (20, T, 0)), feed(20), held())
        self.assertEqual(given, [told(), TOO_MANY_WAIT, [0, 0], told(), [0, 4], TOO_MANY_WAIT, told(), [0, 4]])

    def test_what_changes_nothing_does_not_wait(self):
        given = fed(policy(ALL_UP, 100), feed(20, *self.waiting(1024), *[(20, T, 1), (20, S, 0)] * 1000),
                    feed(30, (30, T, 1), (30, S, 0)))
        self.assertEqual(given, [told(), told()])

    def test_at_the_now_that_is_told_with_it(self):
        news = self.waiting(1100)
        # At 119 S's up is unsure yet; at 120 it's not, and what waits is T's last up.
        self.assertEqual(fed(policy(ALL_UP, 100), feed(119, *news)), [TOO_MANY_WAIT])
        self.assertEqual(fed(policy(ALL_UP, 100), feed(120, *news)), [told((2, 20))])

    def test_refused_and_then_taken_with_a_later_now(self):
        news = self.waiting(1100)
        given = fed(policy(ALL_UP, 100), feed(20, *news[:1000]), feed(20, *news[1000:]), feed(120, *news[1000:]),
                    held())
        self.assertEqual(given, [told(), TOO_MANY_WAIT, told((2, 20)), [0, 4]])

    def test_what_is_ahead_of_the_unsure_up_does_not_count(self):
        news = [(10, T, 1 - place % 2) for place in range(3001)] + [(20, P, 1), (20, P, 0)]
        given = fed(policy(ALL_UP, 100), feed(20, *news), feed(20, *[(20, S, 1 - place % 2) for place in range(1024)]),
                    feed(20, *[(20, S, 1 - place % 2) for place in range(1023)]))
        self.assertEqual(given, [told(), TOO_MANY_WAIT, told()])

    def test_refused_first_for_what_is_wrong_with_the_events(self):
        news = self.waiting(1100)
        rule = policy(ALL_UP, 100)
        self.assertEqual(fed(rule, feed(20, *news, (20, 6, 1))), [REFUSED])
        self.assertEqual(fed(rule, feed(20, *news, (21, S, 1))), [REFUSED])
        self.assertEqual(fed(rule, feed_numbers(20, [10, 3, 20, 2] + [20, 5, 20, 4] * 600 + [20])), [REFUSED])

    def test_the_same_in_each_way(self):
        for way in (ALL_UP, FIRST_UP, BY_TIME):
            given = fed(policy(way, 100, 5000), feed(20, *self.waiting(1024)), feed(20, (20, P, 1)))
            self.assertEqual(given, [told(), TOO_MANY_WAIT], way)


if __name__ == "__main__":
    unittest.main()
