"""The shortest way to write bytes, values and tokens."""

from shortmark.signs import (
    AMPERSAND, DOUBLE_QUOTE, EQUALS, GREATER, LESS, NOT_BARE, SINGLE_QUOTE, SLASH, SPACE, signs_of,
)
from shortmark.tokens import CLOSE_TAG, COMMENT, OPEN_TAG, RUN_OF_TEXT


def shortest_form(signs, barred):
    """The signs, each one that is barred written as a reference."""
    written = []
    for sign in signs:
        if sign in barred:
            written.extend(reference_to(sign))
        else:
            written.append(sign)
    return written


def reference_to(sign):
    if sign == LESS:
        return signs_of("&lt;")
    if sign == GREATER:
        return signs_of("&gt;")
    if sign == AMPERSAND:
        return signs_of("&amp;")
    return signs_of(f"&#{sign};")


def quoted_form(value, quote):
    return [quote] + shortest_form(value, (AMPERSAND, quote)) + [quote]


def bare_form(value, tight):
    """With a blank behind it if it is tight, or the / would be read as a part of it."""
    written = shortest_form(value, list(NOT_BARE))
    if tight:
        written.append(SPACE)
    return written


def cheapest_form(value, tight):
    forms = [quoted_form(value, DOUBLE_QUOTE), quoted_form(value, SINGLE_QUOTE)]
    if value:
        forms.insert(0, bare_form(value, tight))
    # Of forms of one length min takes the first.
    return min(forms, key=len)


def short_open_tag(token):
    written = [LESS] + token.name
    last = len(token.attributes) - 1
    for index, pair in enumerate(token.attributes):
        written.append(SPACE)
        written.extend(short_attribute(pair[0], pair[1], token.ended == 1 and index == last))
    return written + tag_end(token)


def tag_end(token):
    return [SLASH, GREATER] if token.ended == 1 else [GREATER]


def short_attribute(name, value, tight):
    if not value:
        return name
    return name + [EQUALS] + cheapest_form(value, tight)


def short_token(token):
    if token.kind == RUN_OF_TEXT:
        return shortest_form(token.signs, (AMPERSAND, LESS))
    if token.kind == OPEN_TAG:
        return short_open_tag(token)
    if token.kind == CLOSE_TAG:
        return signs_of("</") + token.name + [GREATER]
    if token.kind == COMMENT:
        return signs_of("<!--") + token.signs + signs_of("-->")
    return token.signs


def short_tokens(tokens):
    """The tokens written short, one behind the other."""
    written = []
    for token in tokens:
        written.extend(short_token(token))
    return written
