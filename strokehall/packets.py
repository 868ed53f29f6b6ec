"""The plain line: a chord is a packet of seven bytes."""

from strokehall.board import MOST_KEYS, is_chord
from strokehall.received import chord_told, fault_told
from strokehall.rows import counted

FIRST_MARK = 128
ODD_MARK = 64
PACKET_LENGTH = 7

STRAY = 1
CUT_OFF = 2
WRONG_ODDNESS = 3
NO_CHORD = 4


def first_byte(chord):
    """The first byte of a chord's packet."""
    keys = sum([chord >> key & 1 for key in range(MOST_KEYS)])
    return FIRST_MARK + ODD_MARK * (keys % 2) + (chord >> 42)


def packet_of(chord):
    """A chord's seven bytes."""
    return [first_byte(chord)] + [chord >> lowest & 127 for lowest in (35, 28, 21, 14, 7, 0)]


def chord_of(packet):
    """The chord of a packet's bytes, whatever its first one marks."""
    chord = packet[0] % ODD_MARK
    for byte in packet[1:]:
        chord = chord * 128 + byte
    return chord


def send(chord):
    """What the call send is answered."""
    if not is_chord(chord, MOST_KEYS):
        return [-1]
    return [0] + counted(packet_of(chord))


class PlainLine:
    """The plain line since it was begun, as it's received."""

    def __init__(self, board):
        self.board = board
        self.place = 0
        self.start = 0
        self.packet = []

    def receive(self, byte):
        """Take one byte; what is received by it."""
        place = self.place
        self.place += 1
        if byte >= FIRST_MARK:
            found = [] if self.packet == [] else fault_told(CUT_OFF, self.start)
            self.start = place
            self.packet = [byte]
            return found
        if self.packet == []:
            return fault_told(STRAY, place)
        self.packet.append(byte)
        if len(self.packet) < PACKET_LENGTH:
            return []
        packet = self.packet
        self.packet = []
        return self.judge(packet)

    def judge(self, packet):
        """What a whole packet comes to."""
        chord = chord_of(packet)
        if packet[0] != first_byte(chord):
            return fault_told(WRONG_ODDNESS, self.start)
        if not self.board.owns(chord):
            return fault_told(NO_CHORD, self.start)
        return chord_told(chord, 0, 0)
