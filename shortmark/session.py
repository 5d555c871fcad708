"""A text that is fed in pieces."""

from shortmark.normal import Joiner
from shortmark.reader import ENDED, FAULT, Reader
from shortmark.reading import read_end, read_signs
from shortmark.shortest import short_tokens

MOST_FED = 16384


class Session:
    """The text that is being read, and how much of it has been written."""

    def __init__(self):
        self.begin()

    def begin(self):
        self.reader = Reader()
        self.joiner = Joiner()
        self.looked_at = 0

    def is_over(self):
        return self.reader.mode in (ENDED, FAULT)

    def has_room_for(self, signs):
        return self.reader.count + len(signs) <= MOST_FED

    def feed(self, signs):
        """What can be written now that these signs have come, if there is no fault."""
        read_signs(self.reader, signs)
        return short_tokens(self.new_normal_tokens())

    def end(self):
        """What is left to write now that the text ends, if there is no fault."""
        read_end(self.reader)
        settled = self.new_normal_tokens()
        settled.extend(self.joiner.release())
        return short_tokens(settled)

    def new_normal_tokens(self):
        fresh = self.reader.tokens[self.looked_at:]
        self.looked_at += len(fresh)
        return self.joiner.settle(fresh)
