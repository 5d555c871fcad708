"""Each of the reader's modes: what it does with each byte, and what the end does there."""

import unittest

from shortmark.reader import Reader
from shortmark.reading import read_signs
from tests.helpers import ask, end, fault, feed, laid, minify, same, saved, signs, tokens, wrote

ALL = set(range(256))
BLANK = {9, 10, 13, 32}
SMALL = set(range(97, 123))
LARGE = set(range(65, 91))
DIGIT = set(range(48, 58))
NAME = SMALL | DIGIT | {45}
BARE = ALL - BLANK - set(map(ord, "\"&'<=>`"))
BODY = SMALL | LARGE | DIGIT | {35}


def one(letter):
    return {ord(letter)}


# For each mode some beginnings that lead there; then which bytes lead on to which mode, and the kind of
# fault of every other byte.
MODES = [
    (0, ["", "a", "<b>", "</b>", "<b/>", "<!---->", "<calc></calc>"],
     [(one("<"), 5), (one("&"), 1), (ALL - set(map(ord, "<&")), 0)], None),
    (1, ["&", "&a", "a&#x"], [(BODY, 1)], 4),
    (1, ["a&#12", "&lt"], [(BODY, 1), (one(";"), 0)], 4),
    (1, ["&#255", "&quot"], [(one(";"), 0)], 4),
    (2, ['<a b="&', '<a b="c&quo'], [(BODY, 2)], 4),
    (2, ['<a b="&#xFf'], [(one(";"), 12)], 4),
    (3, ["<a b='&"], [(BODY, 3)], 4),
    (3, ["<a b='&apos"], [(one(";"), 13)], 4),
    (4, ["<a b=&", "<a b=c&a"], [(BODY, 4)], 4),
    (4, ["<a b=&#007", "<a b=c&#x0a"], [(one(";"), 14)], 4),
    (5, ["<", "x<"], [(SMALL, 6), (one("/"), 7), (one("!"), 17)], 1),
    (6, ["<a", "<a-9"], [(NAME, 6), (BLANK, 9), (one("/"), 16), (one(">"), 0)], 1),
    (7, ["</"], [(SMALL, 8)], 1),
    (8, ["</a", "</a-9"], [(NAME, 8), (one(">"), 0)], 1),
    (9, ["<a ", "<a \t\r\n", "<a b ", "<a b=c ", "<a b='c' "],
     [(BLANK, 9), (SMALL, 10), (one("/"), 16), (one(">"), 0)], 1),
    (10, ["<a b", "<a b c", "<a b-9"],
     [(NAME, 10), (BLANK, 9), (one("/"), 16), (one(">"), 0), (one("="), 11)], 1),
    (11, ["<a b="], [(one('"'), 12), (one("'"), 13), (one("&"), 4), (BARE, 14)], 1),
    (12, ['<a b="', '<a b="c', '<a b="&lt;'], [(one('"'), 15), (one("&"), 2), (ALL - set(map(ord, "\"&")), 12)], None),
    (13, ["<a b='", "<a b='c", "<a b='&lt;"], [(one("'"), 15), (one("&"), 3), (ALL - set(map(ord, "'&")), 13)], None),
    (14, ["<a b=c", "<a b=/", "<a b=&lt;"], [(BARE, 14), (one("&"), 4), (BLANK, 9), (one(">"), 0)], 1),
    (15, ["<a b='c'", '<a b=""'], [(BLANK, 9), (one("/"), 16), (one(">"), 0)], 1),
    (16, ["<a/", "<a /", "<a b/", "<a b=c /", "<a b='c'/", "<calc/"], [(one(">"), 0)], 1),
    (17, ["<!"], [(one("-"), 18)], 1),
    (18, ["<!-"], [(one("-"), 19)], 1),
    (19, ["<!--", "<!--a", "<!-->", "<!--->", "<!--a--b"], [(one("-"), 20), (ALL - one("-"), 19)], None),
    (20, ["<!---", "<!--a-"], [(one("-"), 21), (ALL - one("-"), 19)], None),
    (21, ["<!----", "<!--a----"], [(one("-"), 21), (one(">"), 0), (ALL - set(map(ord, "->")), 19)], None),
    (22, ["<calc>", "<verb a=b>", "<calc>a", "<calc><a"], [(one("<"), 23), (ALL - one("<"), 22)], None),
    (23, ["<calc><", "<verb><<", "<calc>a<"],
     [(one("/"), 24), (one("<"), 23), (ALL - set(map(ord, "</")), 22)], None),
    (24, ["<calc></", "<calc>a<</"], [(one("c"), 24)], 6),
    (24, ["<verb></ver"], [(one("b"), 24)], 6),
    (24, ["<verb></verb", "<calc></calc"], [(one(">"), 0)], 6),
]


def bring(text):
    reader = Reader()
    read_signs(reader, signs(text))
    return reader


class Modes(unittest.TestCase):

    def test_every_mode_is_here(self):
        self.assertEqual(sorted({row[0] for row in MODES}), list(range(25)))

    def test_beginnings_lead_to_their_mode(self):
        for mode, beginnings, moves, kind in MODES:
            for text in beginnings:
                reader = bring(text)
                self.assertEqual((reader.mode, reader.count), (mode, len(text)), text)

    def test_each_byte(self):
        for mode, beginnings, moves, kind in MODES:
            for text in beginnings:
                self.check_bytes(text, moves, kind)

    def check_bytes(self, text, moves, kind):
        taken = set()
        for row, mode in moves:
            taken |= row
            for byte in row:
                reader = bring(signs(text) + [byte])
                self.assertEqual((reader.mode, reader.count), (mode, len(text) + 1), (text, byte))
        for byte in ALL - taken:
            call = signs(text) + [byte]
            expected = [fault(kind, len(text))] * 5
            self.assertEqual(ask(minify(call), saved(call), laid(9, call), tokens(call), feed(call)), expected,
                             (text, byte))
            self.assertEqual(ask(same("", call)), [[1, 1, kind, len(text)]], (text, byte))

    def test_the_end(self):
        for mode, beginnings, moves, kind in MODES:
            for text in beginnings:
                if mode == 0:
                    self.assertEqual(ask(minify(text))[0][0], 0, text)
                    self.assertEqual(ask(feed(text), end())[1][0], 0, text)
                else:
                    late = fault(7, len(text))
                    self.assertEqual(ask(minify(text), saved(text), laid(9, text), tokens(text)), [late] * 4, text)
                    self.assertEqual(ask(feed(text), end())[1], late, text)

    def test_a_gap_after_a_name_is_a_fault_in_a_close_tag(self):
        self.assertEqual(ask(minify("<b></b >")), [fault(1, 6)])

    def test_an_empty_text(self):
        self.assertEqual(ask(minify(""), saved(""), feed(""), end()), [wrote(""), [0, 0, 0, 0], wrote(""), wrote("")])
        self.assertEqual(ask(laid(0, ""), same("", ""), tokens("")), [wrote(""), [0, 1], [0, 0]])


if __name__ == "__main__":
    unittest.main()
