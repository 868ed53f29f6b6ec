"""Promises 1, 2, 3 and 8, over many rows of news: what is told is compared with the words of
section 3, taken over all the news at once.
"""

import random
import unittest

from asking import (ALL_UP, BY_TIME, EXAMPLE, FIRST_UP, MIXED, REFUSED, TOO_MANY_WAIT, ask, begin, feed, feed_numbers,
                    frame, frame_bytes, held, line, merge, packet_bytes, policy, read, send, take, write)

RULES = [(way, bounce, gap) for way in (ALL_UP, FIRST_UP, BY_TIME) for bounce in (0, 1, 4, 30) for gap in (1, 6, 40)]


def changes_of(news):
    """The news less what changes nothing."""
    pressed, kept = set(), []
    for tick, key, down in news:
        if (key in pressed) != (down == 1):
            kept.append((tick, key, down))
            pressed ^= {key}
    return kept


def certain_of(news, now, bounce):
    """The believed news that counts, the last tick that does, and how much news waits."""
    changes = changes_of(news)
    unbelieved = set()
    for place, (tick, key, down) in enumerate(changes):
        behind = [other for other in range(place + 1, len(changes)) if changes[other][1] == key]
        if down:
            continue
        if behind and changes[behind[0]][0] - tick < bounce:
            unbelieved |= {place, behind[0]}
        elif not behind and now < tick + bounce:
            believed = [change for other, change in enumerate(changes[:place]) if other not in unbelieved]
            return believed, tick, len(changes) - place
    return [change for place, change in enumerate(changes) if place not in unbelieved], now, 0


def strokes_by_ups(way, believed):
    strokes, down_now, gone_down = [], set(), set()
    for tick, key, down in believed:
        if down:
            down_now.add(key)
            gone_down.add(key)
            continue
        keys = set(gone_down) if way == ALL_UP else set(down_now)
        down_now.discard(key)
        if gone_down and (way == FIRST_UP or not down_now):
            strokes.append((sum(1 << one for one in keys), tick))
            gone_down = set()
    return strokes


def strokes_by_time(gap, believed, last_tick):
    strokes, keys, last = [], set(), 0
    downs = [(tick, key) for tick, key, down in believed if down]
    for tick in range(min([tick for tick, key in downs], default=last_tick), last_tick + 1):
        if keys and tick == last + gap:
            strokes.append((sum(1 << one for one in keys), tick))
            keys = set()
        for key in [key for at, key in downs if at == tick]:
            keys.add(key)
            last = tick
    return strokes


def strokes_of(rule, news, now):
    way, bounce, gap = rule
    believed, last_tick, waiting = certain_of(news, now, bounce)
    if way == BY_TIME:
        return strokes_by_time(gap, believed, last_tick)
    return strokes_by_ups(way, believed)


def some_news(source, count, keys=6):
    news, tick = [], source.randint(0, 5)
    for one in range(count):
        news.append((tick, source.randrange(keys), source.randint(0, 1)))
        tick += source.choice((0, 0, 1, 1, 2, 3, 4, 5, 9, 45))
    return news


def cut(source, news, now):
    """The news in pieces, feeds of no events among them: nows and events."""
    feeds, place, last = [], 0, 0
    while place < len(news):
        count = source.choice((0, 1, 1, 2, 5))
        piece = news[place:place + count]
        place += count
        lowest = piece[-1][0] if piece else last
        highest = news[place][0] if place < len(news) else now
        last = source.randint(lowest, max(lowest, highest))
        feeds.append((last, piece))
    return feeds + [(now, [])]


def pairs(answer):
    return [tuple(answer[place:place + 2]) for place in range(2, len(answer), 2)]


class HoweverNewsIsCut(unittest.TestCase):
    def check(self, rule, feeds):
        given = ask(EXAMPLE, policy(*rule), *[feed(now, *piece) for now, piece in feeds])[2:]
        news, all_told = [], []
        for (now, piece), answer in zip(feeds, given):
            news = news + piece
            all_told += pairs(answer)
            self.assertEqual(answer[:2], [0, 2 * len(pairs(answer))])
            # Both at once: nothing else is told, and each stroke as soon as it's certain.
            self.assertEqual(all_told, strokes_of(rule, news, now), (rule, feeds))
        self.assertEqual(sorted(all_told, key=lambda stroke: stroke[1]), all_told)
        return all_told

    def test_promise_1(self):
        source = random.Random(1)
        for turn in range(8):
            news = some_news(source, source.randint(1, 40))
            now = news[-1][0] + source.choice((0, 1, 10, 100))
            for rule in RULES:
                whole = self.check(rule, [(now, news)])
                for feeds in ([(event[0], [event]) for event in news] + [(now, [])],
                              [one for event in news for one in ((event[0], []), (event[0], [event]), (event[0], []))]
                              + [(now, [])],
                              cut(source, news, now), cut(source, news, now)):
                    self.assertEqual(self.check(rule, feeds), whole)

    def test_promise_1_with_two_keys_that_bounce_much(self):
        source = random.Random(11)
        for turn in range(40):
            news = some_news(source, 30, keys=2)
            now = news[-1][0] + 100
            for rule in ((ALL_UP, 3, 1), (FIRST_UP, 3, 1), (BY_TIME, 3, 7)):
                self.assertEqual(self.check(rule, cut(source, news, now)), self.check(rule, [(now, news)]))

    def test_promise_1_over_refused_feeds(self):
        source = random.Random(12)
        for turn in range(3):
            others = [(11 + place // 600, source.randrange(1, 6), source.randint(0, 1)) for place in range(2600)]
            news = [(10, 0, 1), (11, 0, 0)] + others + [(17, 0, 1), (18, 0, 0)]
            for rule in ((ALL_UP, 6, 1), (FIRST_UP, 6, 1), (BY_TIME, 6, 3)):
                self.assertGreater(self.feed_as_taken(rule, news), 0)

    def feed_as_taken(self, rule, news):
        """Feed in pieces; one that's refused is fed again with those behind it. How many were refused."""
        feeds, taken, refused = [], [], 0
        for place in range(0, len(news), 200):
            piece = news[len(taken):place + 200]
            now = piece[-1][0]
            waiting = certain_of(taken + piece, now, rule[1])[2]
            feeds.append((feed(now, *piece), waiting > 1024))
            if waiting > 1024:
                refused += 1
            else:
                taken = taken + piece
        feeds.append((feed(1000, *news[len(taken):]), False))
        given = ask(EXAMPLE, policy(*rule), *[one for one, over in feeds])[2:]
        self.assertEqual([answer == TOO_MANY_WAIT for answer in given], [over for one, over in feeds])
        all_told = [stroke for answer in given for stroke in pairs(answer)]
        self.assertEqual(all_told, strokes_of(rule, news, 1000))
        return refused


class AllUpStrokes(unittest.TestCase):
    def test_promise_2(self):
        """A key is in a stroke just if it went down between the stroke before and that one's end."""
        source = random.Random(21)
        for turn in range(100):
            news = changes_of(some_news(source, 40))
            news = [(place, key, down) for place, (tick, key, down) in enumerate(news)]
            before = source.choice(([], [feed(0, (0, 1, 1)), policy(ALL_UP, 0)]))
            strokes = pairs(ask(EXAMPLE, *before, feed(100, *news))[-1])
            start = -1
            for chord, end in strokes:
                keys = {key for tick, key, down in news if down and start < tick < end}
                self.assertEqual(chord, sum(1 << key for key in keys))
                start = end
            pressed = set()
            ends = []
            for tick, key, down in news:
                pressed ^= {key}
                if not pressed:
                    ends.append(tick)
            self.assertEqual([end for chord, end in strokes], ends)


class Bounces(unittest.TestCase):
    def test_promise_3(self):
        source = random.Random(31)
        for turn in range(60):
            news = changes_of(some_news(source, 25))
            bounced = self.with_bounces(source, news, 5)
            for way in (ALL_UP, FIRST_UP, BY_TIME):
                given = [ask(EXAMPLE, policy(way, 5, 12), feed(3000, *some))[-1] for some in (news, bounced)]
                self.assertEqual(given[0], given[1], (way, news, bounced))

    def with_bounces(self, source, news, bounce):
        """The news, with an up and a down of a key that is down put in at many a place."""
        rows = []
        for place, event in enumerate(news):
            rows.append(event)
            end = news[place + 1][0] if place + 1 < len(news) else event[0] + 20
            pressed = [key for key in range(6) if sum(1 for one in news[:place + 1] if one[1] == key) % 2]
            if pressed and source.randint(0, 2):
                key = source.choice(pressed)
                first = source.randint(event[0], end)
                last = source.randint(first, min(end, first + bounce - 1))
                rows += [(first, key, 0), (last, key, 1)]
        return rows


class RefusalsChangeNothing(unittest.TestCase):
    WRONG = [
        begin(1, 0, 0, "ab", [0]), begin(1, 0, 2, "ab"), begin(3, 0, 0, "ab"), begin(0, 0, 0, ""), begin(2, 0, 0, "aa"),
        policy(3, 0), policy(0, 1001), policy(1, 5, 0), policy(2, 5, 10001),
        feed_numbers(2**39, [1]), feed(2**40), feed(2**39, (2**39, 8, 1)),
        feed(2**39, (2**39, 0, 1), (2**39 - 1, 1, 1)), feed(2**39, (2**39, 0, 1), (2**39 + 1, 1, 1)),
        feed_numbers(2**39, [2**39, 1] * 4097),
        write(), write(*[1] * 11), write(1, 0), write(2**53 - 1), read([107] * 4097),
        merge([1], []), merge([], [1, 2, 3]), merge([2, 1, 1, 1], []), merge([], [5, 1, 9, 1, 8, 1]),
        send(0), send(2**48), frame(256, 0, 1), frame(0, 2**28, 1), frame(0, 0, 0), frame(0, 0, 2**48),
        line(2), line(2**53 - 1),
    ]
    FAULTY = [read(""), read("kk/"), read("\u00e9k"), read([255])]

    def test_each_is_refused(self):
        given = [answer for place in (0, 20) for answer in ask(MIXED, *self.WRONG[place:place + 20])[1:]]
        self.assertEqual(given, [REFUSED] * len(self.WRONG))
        self.assertEqual([answer[0] for answer in ask(MIXED, *self.FAULTY)[1:]], [-2] * 4)

    def test_promise_8(self):
        source = random.Random(81)
        for turn in range(60):
            calls = self.some_calls(source)
            expected = ask(*calls)
            with_refusals, wanted = [], []
            for place, call in enumerate(calls):
                with_refusals.append(call)
                wanted.append(True)
                for wrong in source.sample(self.WRONG + self.FAULTY, source.randint(0, 2)):
                    if sum(map(len, with_refusals)) + len(wrong) < 17000:
                        with_refusals.append(wrong)
                        wanted.append(False)
            given = ask(*with_refusals)
            self.assertEqual([answer for answer, keep in zip(given, wanted) if keep], expected)
            self.assertTrue(all(answer[0] < 0 for answer, keep in zip(given, wanted) if not keep))

    def test_promise_8_where_too_many_would_wait(self):
        # Had it been taken, key 3 would be down, its down at 24 none or a bounce, and now 28.
        over = feed(28, (21, 2, 0), (22, 2, 1), *[(23, 3, 1), (23, 3, 0)] * 600)
        rest = [held(), feed(25, (24, 3, 1), (25, 1, 1), (25, 3, 0)), held(), feed(60, (40, 1, 0), (41, 2, 0)),
                feed(90), held()]
        for way in (ALL_UP, FIRST_UP, BY_TIME):
            start = [MIXED, policy(way, 9, 30), feed(20, (10, 1, 1), (11, 2, 1), (20, 1, 0))]
            given = ask(*start, over, *rest)
            self.assertEqual(given[3], TOO_MANY_WAIT)
            self.assertEqual(given[:3] + given[4:], ask(*start, *rest))

    def some_calls(self, source):
        news = some_news(source, 30, keys=8)
        calls = [MIXED, policy(source.randint(0, 2), source.choice((0, 3, 20)), source.choice((1, 9)))]
        for now, piece in cut(source, news, news[-1][0] + 50):
            calls.append(feed(now, *piece))
            calls += source.sample([[], held(), write(5, 9), read("k2/-k"), merge([1, 3], [1, 5]), send(9)], 1)
            if source.randint(0, 9) == 0:
                calls.append(policy(source.randint(0, 2), 3, 9))
            if source.randint(0, 9) == 0:
                calls.append(line(source.randint(0, 1)))
            # Pieces of packets and frames, so that refusals come in the midst of them.
            some = packet_bytes(source.randrange(1, 300)) + frame_bytes(source.randrange(256), 2, 3)
            place = source.randrange(len(some))
            calls.append(take(some[place:] + some[:place]))
        return [call for call in calls if call]


if __name__ == "__main__":
    unittest.main()
