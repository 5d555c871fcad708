"""The document's examples, to the number."""

import unittest

from shortmark.desk import answers
from tests.helpers import (
    ask, counted, end, fault, feed, laid, minified, minify, same, saved, signs, tokens, value, wrote,
)


class Examples(unittest.TestCase):

    def test_saved(self):
        self.assertEqual(ask(saved("<p><b>&#97;</b></p><q></q>")), [[0, 4, 0, 3]])

    def test_pieces(self):
        self.assertEqual(ask(feed("<b>"), feed("</b>x"), end()), [wrote(""), wrote("<b/>"), wrote("x")])

    def test_pieces_number_by_number(self):
        calls = [1, 3, 60, 98, 62, 1, 5, 60, 47, 98, 62, 120, 2]
        self.assertEqual(answers(calls), [2, 0, 0, 6, 0, 4, 60, 98, 47, 62, 3, 0, 1, 120])

    def test_minified(self):
        self.assertEqual(minified("<a  b='c d' e=\"\" f='g'></a>"), '<a b="c d" e f=g />')
        self.assertEqual(minified("<i j='/'/>"), "<i j=/ />")
        self.assertEqual(minified("<i j='&quot;'/>"), "<i j='\"'/>")

    def test_no_texts(self):
        for text, place in (("<a b = ...", 5), ("x &#38; <b>y</b >", 15)):
            for call in (minify, saved, feed, tokens):
                self.assertEqual(ask(call(text)), [fault(1, place)], text)
            self.assertEqual(ask(laid(9, text), same(text, ""), same("", text)),
                             [fault(1, place), [1, 0, 1, place], [1, 1, 1, place]], text)

    def test_value(self):
        self.assertEqual(ask(value(1, 'a"')), [counted("'a\"'")])
        self.assertEqual(ask(value(0, ""), value(1, "")), [counted('""')] * 2)

    def test_ended_tags_are_one_with_closed_ones(self):
        for text in ("<b></b>", "<b/>"):
            self.assertEqual(minified(text), "<b/>")
        for text in ("<calc></calc>", "<calc/>"):
            self.assertEqual(minified(text), "<calc/>")
        self.assertEqual(ask(same("<b></b>", "<b/>"), same("<calc></calc>", "<calc/>")), [[0, 1], [0, 1]])

    def test_zeros_before(self):
        self.assertEqual(ask(minify("&#007;")), [[0, 1, 7]])

    def test_signs_in_running_print(self):
        self.assertEqual(signs("<a>"), [60, 97, 62])


if __name__ == "__main__":
    unittest.main()
