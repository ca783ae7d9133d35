"""The bytes that texts are made of."""

BLANK = 32
LEFT = 40
RIGHT = 41
STAR = 42
COMMA = 44
DASH = 45
ZERO = 48
NINE = 57
SEMICOLON = 59
SMALL_A = 97
SMALL_O = 111
SMALL_Z = 122
BAR = 124
TILDE = 126


def is_letter(byte):
    return SMALL_A <= byte <= SMALL_Z


def is_digit(byte):
    return ZERO <= byte <= NINE


def as_bytes(text):
    return [ord(sign) for sign in text]


def split_at(text, sign):
    """The stretches of the text between the signs: one more than there are signs."""
    parts = []
    begin = 0
    for at, byte in enumerate(text):
        if byte == sign:
            parts.append(text[begin:at])
            begin = at + 1
    parts.append(text[begin:])
    return parts


def join_with(separator, texts):
    joined = []
    for at, text in enumerate(texts):
        if at > 0:
            joined.extend(separator)
        joined.extend(text)
    return joined
