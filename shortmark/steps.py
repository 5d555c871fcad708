"""How the reader takes a sign, mode by mode."""

from shortmark.reader import (
    ATTRIBUTE_NAME, BARE_VALUE, BEHIND_CLOSE, BEHIND_DASH, BEHIND_EQUALS, BEHIND_EXCLAMATION, BEHIND_LESS,
    BEHIND_SLASH, BEHIND_VALUE, CLOSE_NAME, COMMENT_NO_DASH, COMMENT_ONE_DASH, COMMENT_TWO_DASHES, DOUBLE_VALUE,
    GAP, LONG_NAME, NAME_TWICE, OPEN_NAME, RAW, RAW_BEHIND_CLOSE, RAW_BEHIND_LESS, REFERENCE_IN_BARE,
    REFERENCE_IN_DOUBLE, REFERENCE_IN_SINGLE, REFERENCE_IN_TEXT, SINGLE_VALUE, TEXT, WRONG_RAW_CLOSE,
    WRONG_REFERENCE, WRONG_SIGN,
)
from shortmark.references import byte_of
from shortmark.signs import (
    AMPERSAND, DASH, DOUBLE_QUOTE, EQUALS, EXCLAMATION, GREATER, LESS, SEMICOLON, SINGLE_QUOTE, SLASH, is_bare,
    is_blank, is_body_sign, is_name_sign, is_small_letter,
)
from shortmark.tokens import COMMENT, RUN_OF_TEXT

LONGEST_NAME = 32
LONGEST_BODY = 4


def text_step(reader, sign):
    if sign == LESS:
        if reader.run:
            reader.finish_run(RUN_OF_TEXT, reader.count)
        reader.begun = reader.count
        reader.mode = BEHIND_LESS
        return
    if not reader.run:
        reader.begun = reader.count
    if sign == AMPERSAND:
        reader.mode = REFERENCE_IN_TEXT
    else:
        reader.run.append(sign)


def text_reference_step(reader, sign):
    reference_step(reader, sign, TEXT)


def double_reference_step(reader, sign):
    reference_step(reader, sign, DOUBLE_VALUE)


def single_reference_step(reader, sign):
    reference_step(reader, sign, SINGLE_VALUE)


def bare_reference_step(reader, sign):
    reference_step(reader, sign, BARE_VALUE)


def reference_step(reader, sign, mode_behind):
    if sign == SEMICOLON:
        finish_reference(reader, mode_behind)
    elif is_body_sign(sign) and len(reader.body) < LONGEST_BODY:
        reader.body.append(sign)
    else:
        reader.fail(WRONG_REFERENCE)


def finish_reference(reader, mode_behind):
    byte = byte_of(reader.body)
    if byte is None:
        reader.fail(WRONG_REFERENCE)
        return
    reader.run.append(byte)
    reader.body = []
    reader.mode = mode_behind


def behind_less_step(reader, sign):
    if is_small_letter(sign):
        reader.tag_name = [sign]
        reader.mode = OPEN_NAME
    elif sign == SLASH:
        reader.mode = BEHIND_CLOSE
    else:
        only_step(reader, sign, EXCLAMATION, BEHIND_EXCLAMATION)


def only_step(reader, sign, wanted, mode_behind):
    """The step where one sign alone is left that can be taken."""
    if sign == wanted:
        reader.mode = mode_behind
    else:
        reader.fail(WRONG_SIGN)


def add_to_name(reader, name, sign):
    if len(name) < LONGEST_NAME:
        name.append(sign)
    else:
        reader.fail(LONG_NAME)


def open_name_step(reader, sign):
    if is_name_sign(sign):
        add_to_name(reader, reader.tag_name, sign)
    else:
        behind_value_step(reader, sign)


def behind_close_step(reader, sign):
    if is_small_letter(sign):
        reader.tag_name = [sign]
        reader.mode = CLOSE_NAME
    else:
        reader.fail(WRONG_SIGN)


def close_name_step(reader, sign):
    if is_name_sign(sign):
        add_to_name(reader, reader.tag_name, sign)
    elif sign == GREATER:
        reader.finish_close_tag()
    else:
        reader.fail(WRONG_SIGN)


def gap_step(reader, sign):
    if is_small_letter(sign):
        reader.attribute_name = [sign]
        reader.mode = ATTRIBUTE_NAME
    else:
        behind_value_step(reader, sign)


def attribute_name_step(reader, sign):
    if is_name_sign(sign):
        add_to_name(reader, reader.attribute_name, sign)
    elif not (is_blank(sign) or sign in (SLASH, GREATER, EQUALS)):
        reader.fail(WRONG_SIGN)
    elif tuple(reader.attribute_name) in reader.attributes:
        reader.fail(NAME_TWICE)
    elif sign == EQUALS:
        reader.mode = BEHIND_EQUALS
    else:
        reader.finish_attribute()
        behind_value_step(reader, sign)


def behind_equals_step(reader, sign):
    if sign == DOUBLE_QUOTE:
        reader.mode = DOUBLE_VALUE
    elif sign == SINGLE_QUOTE:
        reader.mode = SINGLE_VALUE
    elif sign == AMPERSAND:
        reader.mode = REFERENCE_IN_BARE
    elif is_bare(sign):
        reader.run.append(sign)
        reader.mode = BARE_VALUE
    else:
        reader.fail(WRONG_SIGN)


def double_value_step(reader, sign):
    quoted_value_step(reader, sign, DOUBLE_QUOTE, REFERENCE_IN_DOUBLE)


def single_value_step(reader, sign):
    quoted_value_step(reader, sign, SINGLE_QUOTE, REFERENCE_IN_SINGLE)


def quoted_value_step(reader, sign, quote, reference_mode):
    if sign == quote:
        reader.finish_attribute()
        reader.mode = BEHIND_VALUE
    elif sign == AMPERSAND:
        reader.mode = reference_mode
    else:
        reader.run.append(sign)


def bare_value_step(reader, sign):
    if is_bare(sign):
        reader.run.append(sign)
    elif sign == AMPERSAND:
        reader.mode = REFERENCE_IN_BARE
    elif is_blank(sign) or sign == GREATER:
        reader.finish_attribute()
        behind_value_step(reader, sign)
    else:
        reader.fail(WRONG_SIGN)


def behind_value_step(reader, sign):
    """Also what is left to a tag's name, a gap and an attribute's name when these don't go on."""
    if is_blank(sign):
        reader.mode = GAP
    elif sign == SLASH:
        reader.mode = BEHIND_SLASH
    elif sign == GREATER:
        reader.finish_open_tag(0)
    else:
        reader.fail(WRONG_SIGN)


def behind_slash_step(reader, sign):
    if sign == GREATER:
        reader.finish_open_tag(1)
    else:
        reader.fail(WRONG_SIGN)


def behind_exclamation_step(reader, sign):
    only_step(reader, sign, DASH, BEHIND_DASH)


def behind_dash_step(reader, sign):
    only_step(reader, sign, DASH, COMMENT_NO_DASH)


def comment_no_dash_step(reader, sign):
    if sign == DASH:
        reader.mode = COMMENT_ONE_DASH
    else:
        reader.run.append(sign)


def comment_one_dash_step(reader, sign):
    if sign == DASH:
        reader.mode = COMMENT_TWO_DASHES
    else:
        reader.run.extend([DASH, sign])
        reader.mode = COMMENT_NO_DASH


def comment_two_dashes_step(reader, sign):
    if sign == DASH:
        reader.run.append(DASH)
    elif sign == GREATER:
        reader.finish_run(COMMENT, reader.count + 1)
        reader.mode = TEXT
    else:
        reader.run.extend([DASH, DASH, sign])
        reader.mode = COMMENT_NO_DASH


def raw_step(reader, sign):
    if sign == LESS:
        reader.mode = RAW_BEHIND_LESS
    else:
        reader.run.append(sign)


def raw_behind_less_step(reader, sign):
    if sign == SLASH:
        reader.mode = RAW_BEHIND_CLOSE
    elif sign == LESS:
        reader.run.append(LESS)
    else:
        reader.run.extend([LESS, sign])
        reader.mode = RAW


def raw_behind_close_step(reader, sign):
    matched = len(reader.body)
    wanted = reader.tag_name[matched] if matched < len(reader.tag_name) else GREATER
    if sign != wanted:
        reader.fail(WRONG_RAW_CLOSE)
    elif matched < len(reader.tag_name):
        reader.body.append(sign)
    else:
        reader.finish_raw()


# A mode's number is its step's place here.
STEPS = (
    text_step, text_reference_step, double_reference_step, single_reference_step, bare_reference_step,
    behind_less_step, open_name_step, behind_close_step, close_name_step, gap_step, attribute_name_step,
    behind_equals_step, double_value_step, single_value_step, bare_value_step, behind_value_step,
    behind_slash_step, behind_exclamation_step, behind_dash_step, comment_no_dash_step, comment_one_dash_step,
    comment_two_dashes_step, raw_step, raw_behind_less_step, raw_behind_close_step,
)


def take_sign(reader, sign):
    step = STEPS[reader.mode]
    step(reader, sign)
