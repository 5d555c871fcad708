"""Answers about a whole text."""

from shortmark.normal import normal_tokens
from shortmark.reader import FAULT
from shortmark.reading import read_text
from shortmark.shortest import short_token, short_tokens
from shortmark.tokens import CLOSE_TAG, OPEN_TAG, RUN_OF_TEXT


def read_answer(reader, written):
    """The reader's fault, or what is written with its length before it."""
    if reader.mode == FAULT:
        return fault_answer(reader)
    return [0, len(written)] + written


def fault_answer(reader):
    return [1, reader.fault_kind, reader.count]


def minified_answer(signs):
    reader = read_text(signs)
    return read_answer(reader, short_tokens(normal_tokens(reader.tokens)))


def saved_answer(signs):
    reader = read_text(signs)
    if reader.mode == FAULT:
        return fault_answer(reader)
    tokens = reader.tokens
    by_runs = saved_by_kinds(tokens, (RUN_OF_TEXT,))
    by_tags = saved_by_kinds(tokens, (OPEN_TAG, CLOSE_TAG))
    by_joining = len(short_tokens(tokens)) - len(short_tokens(normal_tokens(tokens)))
    return [0, by_runs, by_tags, by_joining]


def saved_by_kinds(tokens, kinds):
    """How many signs less the tokens of these kinds have, written short, than in the text."""
    return sum([token.stop - token.place - len(short_token(token)) for token in tokens if token.kind in kinds])
