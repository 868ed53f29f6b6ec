"""The numbered line: a chord is a frame, which has a number of its own."""

from strokehall.board import MOST_KEYS, is_chord
from strokehall.bodies import LONGEST_BODY, NO_FAULT, body_of, chord_in, fault_in, ticks_in, ticks_of
from strokehall.received import chord_told, fault_told
from strokehall.rows import counted

OPENING = 2
CLOSING = 3
ESCAPE = 16
TURNED_BIT = 32

NUMBERS = 256
MOST_LOST = 127
TICKS_END = 268435456

STRAY = 1
CUT_OFF = 2
WRONG_ESCAPE = 3
TOO_LONG = 4
OLD = 9


def is_reserved(byte):
    """Whether a byte can't stand for itself in a body."""
    return byte in (OPENING, CLOSING, ESCAPE)


def frame(number, ticks, chord):
    """What the call frame is answered."""
    if number >= NUMBERS or ticks >= TICKS_END or not is_chord(chord, MOST_KEYS):
        return [-1]
    row = [OPENING]
    for byte in body_of(number, ticks, chord):
        if is_reserved(byte):
            row.extend([ESCAPE, byte ^ TURNED_BIT])
        else:
            row.append(byte)
    return [0] + counted(row + [CLOSING])


class NumberedLine:
    """The numbered line since it was begun, as it's received."""

    def __init__(self, board):
        self.board = board
        self.place = 0
        self.start = 0
        self.body = None
        self.escaped = False
        self.awaited = None

    def receive(self, byte):
        """Take one byte; what is received by it."""
        place = self.place
        self.place += 1
        if byte == OPENING:
            found = [] if self.body is None else fault_told(CUT_OFF, self.start)
            self.enter(place)
            return found
        if self.body is None:
            return fault_told(STRAY, place)
        if self.escaped:
            return self.put_escaped(byte)
        if byte == CLOSING:
            return self.end_frame()
        if byte == ESCAPE:
            self.escaped = True
            return []
        return self.put(byte)

    def enter(self, place):
        """A frame begins."""
        self.start = place
        self.body = []
        self.escaped = False

    def leave(self, kind):
        """The frame under way is given up for a fault."""
        self.body = None
        return fault_told(kind, self.start)

    def put_escaped(self, byte):
        """Take a byte right behind 16."""
        self.escaped = False
        turned = byte ^ TURNED_BIT
        if not is_reserved(turned):
            return self.leave(WRONG_ESCAPE)
        return self.put(turned)

    def put(self, byte):
        """Take a byte of the body."""
        if len(self.body) == LONGEST_BODY:
            return self.leave(TOO_LONG)
        self.body.append(byte)
        return []

    def end_frame(self):
        """The frame under way has ended: what it comes to."""
        body = self.body
        self.body = None
        kind = fault_in(body, self.board)
        if kind != NO_FAULT:
            return fault_told(kind, self.start)
        number = body[0]
        lost = 0 if self.awaited is None else (number - self.awaited) % NUMBERS
        if lost > MOST_LOST:
            return fault_told(OLD, self.start)
        self.awaited = (number + 1) % NUMBERS
        return chord_told(chord_in(body), ticks_of(ticks_in(body)), lost)
