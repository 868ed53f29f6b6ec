"""Characters: which may be labels, and how they stand in UTF-8."""

SPACE = 32
BAR_SIGN = 35
DASH = 45
SLASH = 47
DIGIT_ZERO = 48
DIGIT_NINE = 57
DELETE = 127
FIRST_SURROGATE = 55296
LAST_SURROGATE = 57343
LAST_CHARACTER = 1114111


def is_digit(character):
    """Whether this is one of the characters 0 to 9."""
    return DIGIT_ZERO <= character <= DIGIT_NINE


def is_label(character):
    """Whether a key other than the bar may have this as its label."""
    if character <= SPACE or character > LAST_CHARACTER:
        return False
    if FIRST_SURROGATE <= character <= LAST_SURROGATE:
        return False
    return character not in (BAR_SIGN, DASH, SLASH, DELETE) and not is_digit(character)


def utf8(character):
    """The bytes of a character, a list."""
    if character < 128:
        return [character]
    tail = [128 + character % 64]
    if character < 2048:
        return [192 + character // 64] + tail
    tail = [128 + character // 64 % 64] + tail
    if character < 65536:
        return [224 + character // 4096] + tail
    return [240 + character // 262144, 128 + character // 4096 % 64] + tail
