"""The object that calls are made on: a keyboard that's read."""

from strokehall.board import Board, is_keyboard
from strokehall.events import in_order
from strokehall.frames import NumberedLine
from strokehall.news import News
from strokehall.outlines import is_outline, outline_text, read_outline
from strokehall.packets import PlainLine
from strokehall.rows import counted

TICKS_END = 1099511627776
MOST_EVENTS = 4096
MOST_TEXT = 4096
LAST_WAY = 2
MOST_BOUNCE = 1000
MOST_GAP = 10000
PLAIN = 0
NUMBERED = 1


def events_fit(events, earliest, latest, size):
    """Whether events are in order between two ticks, of keys that there are."""
    if len(events) // 2 > MOST_EVENTS or not in_order(events, earliest):
        return False
    for place in range(0, len(events), 2):
        if events[place] > latest or events[place + 1] // 2 >= size:
            return False
    return True


class Hall:
    """One keyboard that's read; each call gives back what it's answered, a list of numbers."""

    def __init__(self):
        self.board = None
        self.news = None
        self.now = 0
        self.wire = None

    def begin(self, left, middle, bar, labels, digits):
        """A keyboard, and all anew."""
        if not is_keyboard(left, middle, bar, labels, digits):
            return [-1]
        self.board = Board(left, middle, bar, labels, digits)
        self.news = News(0, 0, 1)
        self.now = 0
        self.wire = PlainLine(self.board)
        return [0]

    def policy(self, way, bounce, gap):
        """How strokes are made from now on."""
        if way > LAST_WAY or bounce > MOST_BOUNCE or not 1 <= gap <= MOST_GAP:
            return [-1]
        self.news = News(way, bounce, gap)
        return [0]

    def feed(self, now, events):
        """Keys' news up to now, and the strokes that are certain by it."""
        if now >= TICKS_END or now < self.now or not events_fit(events, self.now, now, self.board.size):
            return [-1]
        told = self.news.come(now, events)
        if told is None:
            return [-3]
        self.now = now
        return [0] + counted(told)

    def held(self):
        """The keys that are down, bounces as they came."""
        return [0, self.news.pressed]

    def write(self, outline):
        """An outline's text."""
        if not is_outline(self.board, outline):
            return [-1]
        return [0] + counted(outline_text(self.board, outline))

    def read(self, text):
        """A text's outline."""
        if len(text) > MOST_TEXT:
            return [-1]
        chords, fault = read_outline(self.board, text)
        if chords is None:
            return [-2, fault]
        return [0] + counted(chords)

    def line(self, which):
        """A line is begun anew."""
        if which == PLAIN:
            self.wire = PlainLine(self.board)
        elif which == NUMBERED:
            self.wire = NumberedLine(self.board)
        else:
            return [-1]
        return [0]

    def take(self, some):
        """What is received by bytes, of the line that was begun last."""
        # Never too many bytes: the list of all calls is shorter than that.
        told = []
        for byte in some:
            told.extend(self.wire.receive(byte))
        return [0] + counted(told)
