"""The signs that reading and writing ask for, by name and by sort."""

LINE_FEED = 10
SPACE = 32
EXCLAMATION = 33
DOUBLE_QUOTE = 34
NUMBER_SIGN = 35
AMPERSAND = 38
SINGLE_QUOTE = 39
DASH = 45
SLASH = 47
SEMICOLON = 59
LESS = 60
EQUALS = 61
GREATER = 62

LARGEST_BYTE = 255

BLANKS = (9, 10, 13, 32)
NOT_BARE = (9, 10, 13, 32, 34, 38, 39, 60, 61, 62, 96)


def signs_of(words):
    """The signs of a text that is written in Python."""
    return [ord(letter) for letter in words]


def is_byte(number):
    return 0 <= number <= LARGEST_BYTE


def is_blank(sign):
    return sign in BLANKS


def is_small_letter(sign):
    return 97 <= sign <= 122


def is_large_letter(sign):
    return 65 <= sign <= 90


def is_digit(sign):
    return 48 <= sign <= 57


def is_name_sign(sign):
    return is_small_letter(sign) or is_digit(sign) or sign == DASH


def is_body_sign(sign):
    """Whether the sign may stand within a reference."""
    return is_small_letter(sign) or is_large_letter(sign) or is_digit(sign) or sign == NUMBER_SIGN


def is_bare(sign):
    return sign not in NOT_BARE
