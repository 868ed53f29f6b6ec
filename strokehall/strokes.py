"""Strokes: what the news that is certain comes to, in each of the three ways."""

ALL_UP = 0
FIRST_UP = 1
BY_TIME = 2


class Strokes:
    """The believed news since the policy, and the strokes that were made by it."""

    def __init__(self, way, gap):
        self.way = way
        self.gap = gap
        self.keys_down = 0
        self.gone_down = 0
        self.last_down = 0
        self.made = []

    def make(self, chord, tick):
        """A stroke was made."""
        self.made.extend([chord, tick])
        self.gone_down = 0

    def reach(self, tick):
        """All that comes at lower ticks is known."""
        over = self.last_down + self.gap
        if self.way == BY_TIME and self.gone_down != 0 and over <= tick:
            self.make(self.gone_down, over)

    def press(self, key, tick):
        """A key goes down."""
        # A key at the tick at which a stroke is over belongs to the next one.
        self.reach(tick)
        self.keys_down = self.keys_down | 1 << key
        self.gone_down = self.gone_down | 1 << key
        self.last_down = tick

    def lift(self, key, tick):
        """A key that is down goes up."""
        were_down = self.keys_down
        self.keys_down = were_down ^ 1 << key
        if self.way == ALL_UP and self.keys_down == 0:
            self.make(self.gone_down, tick)
        elif self.way == FIRST_UP and self.gone_down != 0:
            self.make(were_down, tick)

    def hand_over(self):
        """The strokes made since the last time, two numbers each: chord, tick."""
        made = self.made
        self.made = []
        return made
