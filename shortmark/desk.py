"""The calls on one object, and their answers."""

from shortmark.cursor import Cursor
from shortmark.session import Session
from shortmark.shortest import cheapest_form
from shortmark.signs import is_byte
from shortmark.telling import counted
from shortmark.whole import laid_answer, minified_answer, read_answer, same_answer, saved_answer, tokens_answer

MOST_BYTES = 8192

NO_BYTES = -1
TOO_MANY_BYTES = -2
TOO_MUCH_FED = -3
TEXT_IS_OVER = -4
WRONG_SETTING = -5


def begin_call(session, cursor):
    session.begin()
    return [0]


def feed_call(session, cursor):
    row = cursor.take_row()
    refused = bytes_refusal(row) or feed_refusal(session, row)
    if refused:
        return [refused]
    written = session.feed(row)
    return read_answer(session.reader, written)


def end_call(session, cursor):
    if session.is_over():
        return [TEXT_IS_OVER]
    written = session.end()
    return read_answer(session.reader, written)


def minify_call(session, cursor):
    row = cursor.take_row()
    refused = bytes_refusal(row)
    return [refused] if refused else minified_answer(row)


def saved_call(session, cursor):
    row = cursor.take_row()
    refused = bytes_refusal(row)
    return [refused] if refused else saved_answer(row)


def laid_call(session, cursor):
    width = cursor.take_number()
    row = cursor.take_row()
    refused = width_refusal(width) or bytes_refusal(row)
    return [refused] if refused else laid_answer(width, row)


def same_call(session, cursor):
    first = cursor.take_row()
    second = cursor.take_row()
    refused = bytes_refusal(first) or bytes_refusal(second)
    return [refused] if refused else same_answer(first, second)


def value_call(session, cursor):
    tight = cursor.take_number()
    row = cursor.take_row()
    refused = tight_refusal(tight) or bytes_refusal(row)
    return [refused] if refused else counted(cheapest_form(row, tight))


def tokens_call(session, cursor):
    row = cursor.take_row()
    refused = bytes_refusal(row)
    return [refused] if refused else tokens_answer(row)


# A call's number is its place here.
CALLS = (
    begin_call, feed_call, end_call, minify_call, saved_call, laid_call, same_call, value_call, tokens_call,
)


def bytes_refusal(row):
    """The refusal of an argument of bytes, or 0 if it is fine."""
    if not all([is_byte(number) for number in row]):
        return NO_BYTES
    if len(row) > MOST_BYTES:
        return TOO_MANY_BYTES
    return 0


def feed_refusal(session, row):
    """The refusal of bytes as the text's next ones, or 0 if they can be read."""
    if session.is_over():
        return TEXT_IS_OVER
    if not session.has_room_for(row):
        return TOO_MUCH_FED
    return 0


def width_refusal(width):
    return WRONG_SETTING if width < 0 else 0


def tight_refusal(tight):
    return 0 if tight in (0, 1) else WRONG_SETTING


def answers(calls):
    """For each call how many numbers are answered, and these."""
    session = Session()
    cursor = Cursor(calls)
    given = []
    while not cursor.is_through():
        call = CALLS[cursor.take_number()]
        answer = call(session, cursor)
        given.append(len(answer))
        given.extend(answer)
    return given
