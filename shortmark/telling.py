"""Tokens told as numbers."""

from shortmark.tokens import CLOSE_TAG, OPEN_TAG


def counted(row):
    """The row with its length before it."""
    return [len(row)] + row


def told_token(token):
    """All of a token but its place: two tokens are the same, places aside, if these numbers are."""
    if token.kind == OPEN_TAG:
        return [token.kind, token.ended] + counted(token.name) + told_attributes(token.attributes)
    if token.kind == CLOSE_TAG:
        return [token.kind] + counted(token.name)
    return [token.kind] + counted(token.signs)


def told_attributes(attributes):
    told = [len(attributes)]
    for name, value in attributes:
        told.extend(counted(name))
        told.extend(counted(value))
    return told
