"""Outlines: chords written as texts, and such texts read."""

from strokehall.letters import DASH, SLASH

MOST_CHORDS = 10

# What the marks of a chord have settled so far, as they're read. A key with a
# digit shows by its mark whether the bar is in the chord; other keys don't.
OPEN = 0
WITHOUT_BAR = 1
BAR_ALONE = 2
NUMBERS = 3


def is_outline(board, chords):
    """Whether these chords are an outline of the keyboard."""
    return 1 <= len(chords) <= MOST_CHORDS and all([board.owns(chord) for chord in chords])


def chord_text(board, chord):
    """A chord's text, a list of bytes."""
    keys = board.keys_of(chord)
    numbers = board.is_bar(keys[0]) and any([board.digits[key] != 0 for key in keys])
    parted = any([board.middle_start <= key < board.right_start for key in keys])
    text = []
    for key in keys:
        if key >= board.right_start and not parted:
            text.append(DASH)
            parted = True
        if numbers and board.digits[key] != 0:
            text.append(board.digits[key])
        elif not (numbers and board.is_bar(key)):
            text.extend(board.labels[key])
    return text


def outline_text(board, chords):
    """An outline's text, a list of bytes."""
    text = []
    for index, chord in enumerate(chords):
        if index > 0:
            text.append(SLASH)
        text.extend(chord_text(board, chord))
    return text


def shared_length(text, place, mark):
    """How many of a mark's first bytes stand in a text at a place."""
    length = 0
    while length < len(mark) and place + length < len(text) and text[place + length] == mark[length]:
        length += 1
    return length


class Part:
    """One chord of a text as far as it's read: always the beginning of some chord's text."""

    def __init__(self, board):
        self.board = board
        self.chord = 0
        self.lowest = 0
        self.right_open = False
        self.settled = OPEN
        self.complete = False

    def may_dash(self):
        """Whether a - may come now: no middle key ahead of it, some right key behind it."""
        if self.right_open:
            return False
        digits = self.board.digits[self.board.right_start:]
        return any([digit == 0 or self.settled != BAR_ALONE for digit in digits])

    def dash(self):
        """Take a -."""
        self.lowest = self.board.right_start
        self.right_open = True
        self.complete = False

    def marks(self):
        """The keys' marks that may come now: of each its bytes, its key, what's settled by it."""
        end = self.board.size if self.right_open else self.board.right_start
        found = []
        for key in range(self.lowest, end):
            if self.board.is_bar(key):
                found.append((self.board.labels[key], key, BAR_ALONE))
            elif self.board.digits[key] == 0:
                found.append((self.board.labels[key], key, self.settled))
            else:
                found.extend(self.digit_key_marks(key))
        return found

    def digit_key_marks(self, key):
        """The marks that a key with a digit may come as: its label, its digit, both or none."""
        found = []
        if self.settled in (OPEN, WITHOUT_BAR):
            found.append((self.board.labels[key], key, WITHOUT_BAR))
        if self.settled in (OPEN, NUMBERS):
            found.append(([self.board.digits[key]], key, NUMBERS))
        return found

    def press(self, key, settled):
        """Take a key's mark."""
        self.chord = self.chord | 1 << key
        if settled == NUMBERS:
            self.chord = self.chord | 1
        self.lowest = key + 1
        self.right_open = key >= self.board.middle_start
        self.settled = settled
        self.complete = True

    def press_mark(self, text, place):
        """Take the mark at a place of a text; how many of its bytes stand there, and whether all."""
        longest = 0
        for mark, key, settled in self.marks():
            length = shared_length(text, place, mark)
            if length == len(mark):
                self.press(key, settled)
                return length, True
            longest = max(longest, length)
        return longest, False


def read_outline(board, text):
    """The chords of a text, and None; of one that's no outline's None, and the fault's place."""
    chords = []
    part = Part(board)
    place = 0
    while place < len(text):
        if text[place] == SLASH and part.complete and len(chords) < MOST_CHORDS - 1:
            chords.append(part.chord)
            part = Part(board)
            place += 1
        elif text[place] == DASH and part.may_dash():
            part.dash()
            place += 1
        else:
            length, whole = part.press_mark(text, place)
            place += length
            if not whole:
                return None, place
    if not part.complete:
        return None, place
    return chords + [part.chord], None
