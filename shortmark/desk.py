"""The calls on one object, and their answers."""

from shortmark.cursor import Cursor
from shortmark.session import Session
from shortmark.signs import is_byte
from shortmark.whole import minified_answer, read_answer, saved_answer

MOST_BYTES = 8192

NO_BYTES = -1
TOO_MANY_BYTES = -2
TOO_MUCH_FED = -3
TEXT_IS_OVER = -4


def begin_call(session, cursor):
    session.begin()
    return [0]


def feed_call(session, cursor):
    row = cursor.take_row()
    refused = bytes_refusal(row) or feed_refusal(session, row)
    if refused:
        return [refused]
    written = session.feed(row)
    return read_answer(session.reader, written)


def end_call(session, cursor):
    if session.is_over():
        return [TEXT_IS_OVER]
    written = session.end()
    return read_answer(session.reader, written)


def minify_call(session, cursor):
    row = cursor.take_row()
    refused = bytes_refusal(row)
    if refused:
        return [refused]
    return minified_answer(row)


def saved_call(session, cursor):
    row = cursor.take_row()
    refused = bytes_refusal(row)
    if refused:
        return [refused]
    return saved_answer(row)


# A call's number is its place here.
CALLS = (begin_call, feed_call, end_call, minify_call, saved_call)


def bytes_refusal(row):
    """The refusal of an argument of bytes, or 0 if it is fine."""
    if not all([is_byte(number) for number in row]):
        return NO_BYTES
    if len(row) > MOST_BYTES:
        return TOO_MANY_BYTES
    return 0


def feed_refusal(session, row):
    """The refusal of bytes as the text's next ones, or 0 if they can be read."""
    if session.is_over():
        return TEXT_IS_OVER
    if not session.has_room_for(row):
        return TOO_MUCH_FED
    return 0


def answers(calls):
    """For each call how many numbers are answered, and these."""
    session = Session()
    cursor = Cursor(calls)
    given = []
    while not cursor.is_through():
        call = CALLS[cursor.take_number()]
        answer = call(session, cursor)
        given.append(len(answer))
        given.extend(answer)
    return given
