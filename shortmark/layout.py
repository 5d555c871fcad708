"""Tokens written in full, and texts laid out for a width."""

from shortmark.shortest import short_token, tag_end
from shortmark.signs import AMPERSAND, DOUBLE_QUOTE, EQUALS, LESS, LINE_FEED, SPACE, signs_of
from shortmark.tokens import OPEN_TAG


def laid_out(tokens, width):
    """The tokens in full, one behind the other; the attributes of long tags on lines of their own."""
    written = []
    for token in tokens:
        written.extend(laid_token(token, width))
    return written


def laid_token(token, width):
    if token.kind != OPEN_TAG:
        # Only open tags are written otherwise in full than short.
        return short_token(token)
    on_one_line = full_open_tag(token, SPACE)
    if len(on_one_line) <= width:
        return on_one_line
    return full_open_tag(token, LINE_FEED)


def full_open_tag(token, gap):
    """The tag in full, with the sign `gap` before each attribute."""
    written = [LESS] + token.name
    for name, value in token.attributes:
        written.append(gap)
        written.extend(name)
        written.append(EQUALS)
        written.extend(full_value(value))
    return written + tag_end(token)


def full_value(value):
    written = [DOUBLE_QUOTE]
    for sign in value:
        if sign == AMPERSAND:
            written.extend(signs_of("&amp;"))
        elif sign == DOUBLE_QUOTE:
            written.extend(signs_of("&quot;"))
        else:
            written.append(sign)
    written.append(DOUBLE_QUOTE)
    return written
