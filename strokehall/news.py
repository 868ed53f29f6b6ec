"""The keys' news: bounces, and what is certain at which now."""

from strokehall.strokes import Strokes

MOST_WAITING = 1024

BELIEVED = 0
BOUNCED = 1
UNSURE = 2


def changes_in(events, pressed, last_ups, bounce):
    """What events change: of each change the tick, the key, down (1) or up (0), and, of a down,
    whether it comes too soon behind the key's up. Behind them, brought up to date, which keys
    are pressed and when each key went up last.
    """
    changes = []
    last_ups = dict(last_ups)
    for place in range(0, len(events), 2):
        tick = events[place]
        key = events[place + 1] // 2
        down = events[place + 1] % 2
        if (pressed >> key & 1) == down:
            continue
        pressed = pressed ^ 1 << key
        too_soon = down == 1 and key in last_ups and tick - last_ups[key] < bounce
        changes.append((tick, key, down, too_soon))
        if down == 0:
            last_ups[key] = tick
    return changes, pressed, last_ups


def fates_of(changes, now, bounce):
    """For each change whether it's believed, bounced or unsure."""
    fates = []
    followers = {}
    for tick, key, down, too_soon in reversed(changes):
        if down == 1:
            fate = BOUNCED if too_soon else BELIEVED
        elif key in followers:
            # The next change of a key that went up is a down, and both are believed or neither.
            fate = followers[key]
        else:
            fate = UNSURE if now - tick < bounce else BELIEVED
        followers[key] = fate
        fates.append(fate)
    fates.reverse()
    return fates


class News:
    """The news since a policy (or since begin)."""

    def __init__(self, way, bounce, gap):
        self.bounce = bounce
        self.pressed = 0
        self.last_ups = {}
        self.waiting = []
        self.strokes = Strokes(way, gap)

    def come(self, now, events):
        """Take events; the strokes that are told with them, or None if too many would wait."""
        changes, pressed, last_ups = changes_in(events, self.pressed, self.last_ups, self.bounce)
        changes = self.waiting + changes
        fates = fates_of(changes, now, self.bounce)
        certain = fates.index(UNSURE) if UNSURE in fates else len(fates)
        if len(changes) - certain > MOST_WAITING:
            return None
        self.pressed = pressed
        self.last_ups = last_ups
        self.waiting = changes[certain:]
        self.settle(changes[:certain], fates)
        # Past the tick of an unsure up nothing counts, not time either.
        self.strokes.reach(self.waiting[0][0] if self.waiting != [] else now)
        return self.strokes.hand_over()

    def settle(self, changes, fates):
        """Let the believed ones of changes that are certain count."""
        for change, fate in zip(changes, fates):
            tick, key, down, too_soon = change
            if fate == BELIEVED and down == 1:
                self.strokes.press(key, tick)
            elif fate == BELIEVED:
                self.strokes.lift(key, tick)
