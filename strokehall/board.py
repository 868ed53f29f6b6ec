"""Keyboards: what makes one, and what is asked of it."""

from strokehall.letters import BAR_SIGN, is_digit, is_label, utf8

MOST_KEYS = 48


def is_chord(number, size):
    """Whether a number is a chord of some of so many keys."""
    return 1 <= number < 1 << size


def all_differ(row):
    """Whether nothing stands twice in a row."""
    return len(set(row)) == len(row)


def labels_fit(left, middle, bar, labels):
    """Whether a keyboard's labels are as they must be."""
    if bar and labels[0] != BAR_SIGN:
        return False
    if not all([is_label(label) for label in labels[bar:]]):
        return False
    left_bank = labels[:left]
    middle_bank = labels[left:left + middle]
    right_bank = labels[left + middle:]
    if any([label in left_bank or label in right_bank for label in middle_bank]):
        return False
    return all_differ(left_bank) and all_differ(middle_bank) and all_differ(right_bank)


def digits_fit(bar, digits):
    """Whether a keyboard's digits (0 for none) are as they must be."""
    given = [digit for digit in digits if digit != 0]
    if not bar:
        return given == []
    return digits[0] == 0 and all([is_digit(digit) for digit in given]) and all_differ(given)


def is_keyboard(left, middle, bar, labels, digits):
    """Whether what begin was handed tells a keyboard."""
    if len(labels) != len(digits) or bar > 1:
        return False
    if not 1 <= len(labels) <= MOST_KEYS or left + middle > len(labels):
        return False
    if bar and left == 0:
        return False
    return labels_fit(left, middle, bar, labels) and digits_fit(bar, digits)


class Board:
    """A keyboard."""

    def __init__(self, left, middle, bar, labels, digits):
        self.size = len(labels)
        self.middle_start = left
        self.right_start = left + middle
        self.has_bar = bar == 1
        self.labels = [utf8(label) for label in labels]
        self.digits = list(digits)

    def owns(self, chord):
        """Whether a chord is of this keyboard."""
        return is_chord(chord, self.size)

    def keys_of(self, chord):
        """The numbers of a chord's keys, in order."""
        return [key for key in range(self.size) if chord >> key & 1]

    def is_bar(self, key):
        """Whether a key is the bar."""
        return self.has_bar and key == 0
