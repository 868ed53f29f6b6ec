"""The body of a frame: a number, ticks, a chord, a check."""

SHORTEST_BODY = 10
LONGEST_BODY = 13
TICKS_START = 1
# Chord and check stand so many bytes ahead of the body's end.
CHORD_START = 8
CHECK_START = 2
CHORD_LENGTH = 6

FIRST_CHECK = 0xFFFF
# With its highest bit, so that the bit that's moved out is taken off by the same step.
POLYNOMIAL = 0x11021

NO_FAULT = 0
TOO_SHORT = 5
WRONG_CHECK = 6
WRONG_TICKS = 7
NO_CHORD = 8


def check_of(row):
    """The check of some bytes: two bytes, the higher first."""
    check = FIRST_CHECK
    for byte in row:
        check = check ^ byte << 8
        for turn in range(8):
            check = check << 1
            if check >> 16 == 1:
                check = check ^ POLYNOMIAL
    return [check // 256, check % 256]


def ticks_bytes(ticks):
    """Ticks as bytes: seven bits each, the lowest first, all but the last with bit 7 set."""
    row = []
    while ticks >= 128:
        row.append(128 + ticks % 128)
        ticks = ticks // 128
    return row + [ticks]


def ticks_of(row):
    """The ticks that bytes come to, whatever their bits 7 are."""
    ticks = 0
    for byte in reversed(row):
        ticks = ticks * 128 + byte % 128
    return ticks


def chord_bytes(chord):
    """A chord as bytes, the lowest first."""
    return [chord >> 8 * index & 255 for index in range(CHORD_LENGTH)]


def chord_of(row):
    """The chord that bytes come to."""
    chord = 0
    for byte in reversed(row):
        chord = chord * 256 + byte
    return chord


def body_of(number, ticks, chord):
    """A body's bytes."""
    row = [number] + ticks_bytes(ticks) + chord_bytes(chord)
    return row + check_of(row)


def ticks_in(body):
    """The bytes of a body that stand where the ticks do."""
    return body[TICKS_START:len(body) - CHORD_START]


def chord_in(body):
    """The chord of a body."""
    return chord_of(body[len(body) - CHORD_START:len(body) - CHECK_START])


def fault_in(body, board):
    """The first fault that a body has by itself."""
    if len(body) < SHORTEST_BODY:
        return TOO_SHORT
    check_start = len(body) - CHECK_START
    if body[check_start:] != check_of(body[:check_start]):
        return WRONG_CHECK
    ticks = ticks_in(body)
    # Ticks are written in one way only; as a body isn't longer, they have four bytes at most.
    if ticks != ticks_bytes(ticks_of(ticks)):
        return WRONG_TICKS
    if not board.owns(chord_in(body)):
        return NO_CHORD
    return NO_FAULT
