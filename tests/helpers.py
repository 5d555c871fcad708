"""Building calls and taking answers apart."""

from shortmark.desk import answers


def signs(text):
    """The bytes of a text, or of a list of numbers as it is."""
    return list(text) if isinstance(text, list) else [ord(letter) for letter in text]


def counted(text):
    """A text's numbers with how many there are before them."""
    row = signs(text)
    return [len(row)] + row


def with_row(number, text):
    return [number] + counted(text)


def begin():
    return [0]


def feed(text):
    return with_row(1, text)


def end():
    return [2]


def minify(text):
    return with_row(3, text)


def saved(text):
    return with_row(4, text)


def laid(width, text):
    return [5, width] + counted(text)


def same(first, second):
    return [6] + counted(first) + counted(second)


def value(tight, text):
    return [7, tight] + counted(text)


def tokens(text):
    return with_row(8, text)


def split(numbers):
    """The answers, each without the length before it."""
    parts = []
    place = 0
    while place < len(numbers):
        length = numbers[place]
        part = numbers[place + 1:place + 1 + length]
        if len(part) != length:
            raise ValueError("an answer is shorter than told")
        parts.append(part)
        place += 1 + length
    return parts


def ask(*calls):
    """The answers to these calls on one new object."""
    return split(answers([number for call in calls for number in call]))


def wrote(text):
    """The answer of bytes that are written."""
    return [0] + counted(text)


def fault(kind, place):
    return [1, kind, place]


def minified(text):
    """The minified text itself."""
    answer = ask(minify(text))[0]
    if answer[0] != 0 or answer[1] != len(answer) - 2:
        raise ValueError(f"no bytes: {answer} for {text!r}")
    return "".join(map(chr, answer[2:]))
