"""Answers about whole texts."""

from shortmark.layout import laid_out
from shortmark.normal import normal_tokens
from shortmark.reader import FAULT
from shortmark.reading import read_text
from shortmark.shortest import short_token, short_tokens
from shortmark.telling import counted, told_token
from shortmark.tokens import CLOSE_TAG, OPEN_TAG, RUN_OF_TEXT


def read_answer(reader, written):
    """The reader's fault, or what is written with its length before it."""
    if reader.mode == FAULT:
        return fault_answer(reader)
    return [0] + counted(written)


def fault_answer(reader):
    return [1, reader.fault_kind, reader.count]


def minified_answer(signs):
    reader = read_text(signs)
    return read_answer(reader, short_tokens(normal_tokens(reader.tokens)))


def saved_answer(signs):
    reader = read_text(signs)
    if reader.mode == FAULT:
        return fault_answer(reader)
    tokens = reader.tokens
    by_runs = saved_by_kinds(tokens, (RUN_OF_TEXT,))
    by_tags = saved_by_kinds(tokens, (OPEN_TAG, CLOSE_TAG))
    by_joining = len(short_tokens(tokens)) - len(short_tokens(normal_tokens(tokens)))
    return [0, by_runs, by_tags, by_joining]


def saved_by_kinds(tokens, kinds):
    """How many signs less the tokens of these kinds have, written short, than in the text."""
    return sum([token.stop - token.place - len(short_token(token)) for token in tokens if token.kind in kinds])


def laid_answer(width, signs):
    reader = read_text(signs)
    return read_answer(reader, laid_out(reader.tokens, width))


def same_answer(first_signs, second_signs):
    readers = [read_text(first_signs), read_text(second_signs)]
    for which, reader in enumerate(readers):
        if reader.mode == FAULT:
            return [1, which, reader.fault_kind, reader.count]
    alike = told_normal_tokens(readers[0]) == told_normal_tokens(readers[1])
    return [0, 1 if alike else 0]


def tokens_answer(signs):
    reader = read_text(signs)
    if reader.mode == FAULT:
        return fault_answer(reader)
    told_tokens = told_normal_tokens(reader)
    answer = [0, len(told_tokens)]
    for told in told_tokens:
        answer.extend(told)
    return answer


def told_normal_tokens(reader):
    """For each normal token its numbers, as a list of its own."""
    return [told_token(token) for token in normal_tokens(reader.tokens)]
