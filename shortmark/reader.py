"""What the reader keeps, its modes, its kinds of fault, and how tokens become whole."""

from shortmark.signs import signs_of
from shortmark.tokens import RAW_TEXT, close_tag, open_tag, signs_token

TEXT = 0
REFERENCE_IN_TEXT = 1
REFERENCE_IN_DOUBLE = 2
REFERENCE_IN_SINGLE = 3
REFERENCE_IN_BARE = 4
BEHIND_LESS = 5
OPEN_NAME = 6
BEHIND_CLOSE = 7
CLOSE_NAME = 8
GAP = 9
ATTRIBUTE_NAME = 10
BEHIND_EQUALS = 11
DOUBLE_VALUE = 12
SINGLE_VALUE = 13
BARE_VALUE = 14
BEHIND_VALUE = 15
BEHIND_SLASH = 16
BEHIND_EXCLAMATION = 17
BEHIND_DASH = 18
COMMENT_NO_DASH = 19
COMMENT_ONE_DASH = 20
COMMENT_TWO_DASHES = 21
RAW = 22
RAW_BEHIND_LESS = 23
RAW_BEHIND_CLOSE = 24
ENDED = 25
FAULT = 26

WRONG_SIGN = 1
LONG_NAME = 2
NAME_TWICE = 3
WRONG_REFERENCE = 4
WRONG_RAW_CLOSE = 6
UNFINISHED = 7

RAW_NAMES = ("calc", "verb")


class Reader:
    """Where the reading of a text stands; `count` is also the place of a fault."""

    def __init__(self):
        self.mode = TEXT
        self.count = 0
        self.tokens = []
        self.tag_name = []
        # A dict keeps the order and finds a name that comes twice in tags of any length.
        self.attributes = {}
        self.attribute_name = []
        self.body = []
        self.run = []
        self.begun = 0
        self.fault_kind = 0

    def fail(self, kind):
        self.mode = FAULT
        self.fault_kind = kind

    def finish_run(self, kind, stop):
        """The run becomes a token of this kind."""
        self.tokens.append(signs_token(kind, self.begun, stop, self.run))
        self.run = []

    def finish_attribute(self):
        self.attributes[tuple(self.attribute_name)] = self.run
        self.attribute_name = []
        self.run = []

    def finish_open_tag(self, ended):
        """The sign that is being read is the tag's last one."""
        stop = self.count + 1
        pairs = [(list(name), value) for name, value in self.attributes.items()]
        self.tokens.append(open_tag(self.begun, stop, self.tag_name, pairs, ended))
        self.attributes = {}
        if ended == 0 and is_raw_name(self.tag_name):
            self.begun = stop
            self.mode = RAW
        else:
            self.tag_name = []
            self.mode = TEXT

    def finish_close_tag(self):
        """The sign that is being read is the tag's last one."""
        self.tokens.append(close_tag(self.begun, self.count + 1, self.tag_name))
        self.tag_name = []
        self.mode = TEXT

    def finish_raw(self):
        """The close tag behind raw text is whole, and so is the raw text."""
        place = self.count - len(self.tag_name) - len("</")
        if self.run:
            self.finish_run(RAW_TEXT, place)
        self.begun = place
        self.body = []
        self.finish_close_tag()


def is_raw_name(name):
    return name in [signs_of(raw_name) for raw_name in RAW_NAMES]
