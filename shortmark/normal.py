"""Normal tokens: an open tag and its close tag right behind it are one."""

from shortmark.tokens import CLOSE_TAG, OPEN_TAG, open_tag


class Joiner:
    """Makes tokens normal as they come; a tag that the next token may still end is held back."""

    def __init__(self):
        self.held = None

    def settle(self, tokens):
        """The normal tokens that are sure now that these tokens have come."""
        settled = []
        for token in tokens:
            if self.held is not None and closes(token, self.held):
                self.held = joined(self.held, token)
                settled.extend(self.release())
                continue
            settled.extend(self.release())
            if token.kind == OPEN_TAG and token.ended == 0:
                self.held = token
            else:
                settled.append(token)
        return settled

    def release(self):
        """What is held back, as a list of at most one token; then nothing is."""
        if self.held is None:
            return []
        released = [self.held]
        self.held = None
        return released


def closes(token, tag):
    return token.kind == CLOSE_TAG and token.name == tag.name


def joined(tag, closing):
    return open_tag(tag.place, closing.stop, tag.name, tag.attributes, 1)


def normal_tokens(tokens):
    joiner = Joiner()
    settled = joiner.settle(tokens)
    settled.extend(joiner.release())
    return settled
