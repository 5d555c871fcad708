"""Reading signs, the end, and whole texts."""

from shortmark.reader import ENDED, FAULT, TEXT, UNFINISHED, Reader
from shortmark.steps import take_sign
from shortmark.tokens import RUN_OF_TEXT


def read_signs(reader, signs):
    """Reads on until the signs are over or one can't be taken."""
    for sign in signs:
        take_sign(reader, sign)
        if reader.mode == FAULT:
            return
        reader.count += 1


def read_end(reader):
    if reader.mode in (ENDED, FAULT):
        return
    if reader.mode != TEXT:
        reader.fail(UNFINISHED)
        return
    if reader.run:
        reader.finish_run(RUN_OF_TEXT, reader.count)
    reader.mode = ENDED


def read_text(signs):
    """A reader that has read these signs and their end."""
    reader = Reader()
    read_signs(reader, signs)
    read_end(reader)
    return reader
