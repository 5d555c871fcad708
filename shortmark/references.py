"""What a reference stands for."""

from shortmark.signs import LARGEST_BYTE, is_digit, signs_of

NAMED = (("amp", 38), ("lt", 60), ("gt", 62), ("quot", 34), ("apos", 39))


def byte_of(body):
    """The byte of the reference with this body, or None if there is no such reference."""
    for name, byte in NAMED:
        if body == signs_of(name):
            return byte
    if body[:2] == signs_of("#x"):
        return byte_in_base(body[2:], 16, 2)
    if body[:1] == signs_of("#"):
        return byte_in_base(body[1:], 10, 3)
    return None


def byte_in_base(digits, base, most):
    """The byte that one to `most` digits make, or None if they make none."""
    if not 1 <= len(digits) <= most:
        return None
    number = 0
    for sign in digits:
        digit = digit_value(sign)
        if digit is None or digit >= base:
            return None
        number = number * base + digit
    if number > LARGEST_BYTE:
        return None
    return number


def digit_value(sign):
    """The value of a hexadecimal digit, or None if the sign is none."""
    if is_digit(sign):
        return sign - ord("0")
    if ord("a") <= sign <= ord("f"):
        return sign - ord("a") + 10
    if ord("A") <= sign <= ord("F"):
        return sign - ord("A") + 10
    return None
