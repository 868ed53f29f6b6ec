"""What is received on a line, as it's told: four numbers each."""

CHORD = 0


def fault_told(kind, place):
    """A fault."""
    return [kind, place, 0, 0]


def chord_told(chord, ticks, lost):
    """A chord, its ticks, and how many frames were lost ahead of it."""
    return [CHORD, chord, ticks, lost]
