"""Tokens: what a text is made of."""

RUN_OF_TEXT = 0
OPEN_TAG = 1
CLOSE_TAG = 2
COMMENT = 3
RAW_TEXT = 4


class Token:
    """A token that stands in its text from `place` up to, but without, `stop`."""

    def __init__(self, kind, place, stop):
        self.kind = kind
        self.place = place
        self.stop = stop
        self.name = []
        self.attributes = []
        self.ended = 0
        self.signs = []


def signs_token(kind, place, stop, signs):
    """A run of text, a comment or raw text."""
    token = Token(kind, place, stop)
    token.signs = signs
    return token


def open_tag(place, stop, name, attributes, ended):
    """An open tag; its attributes are pairs of a name and a value."""
    token = Token(OPEN_TAG, place, stop)
    token.name = name
    token.attributes = attributes
    token.ended = ended
    return token


def close_tag(place, stop, name):
    token = Token(CLOSE_TAG, place, stop)
    token.name = name
    return token
