"""Each kind of fault with its place, in every call that reads a text."""

import unittest

from tests.helpers import ask, end, fault, feed, laid, minify, same, saved, tokens, wrote

LONG = "a" * 32

# A text, the kind of its fault, and its place.
FAULTS = [
    ("<", 7, 1), ("<1", 1, 1), ("< a>", 1, 1), ("<A>", 1, 1), ("<a,>", 1, 2), ("<aB>", 1, 2), ("</>", 1, 2),
    ("</a b>", 1, 3), ("</a/>", 1, 3), ("<a =>", 1, 3), ("<a b = c>", 1, 5), ("<a b= c>", 1, 5), ("<a b=>", 1, 5),
    ("<a b==>", 1, 5), ("<a b=`>", 1, 5), ("<a b=<>", 1, 5), ("<a b=c'>", 1, 6), ("<a b='c'd>", 1, 8),
    ("<a / >", 1, 4), ("<a //>", 1, 4), ("<!a>", 1, 2), ("<!-a>", 1, 3), ("<!DOCTYPE>", 1, 2), ("<a b,>", 1, 4),
    (f"<{LONG}a>", 2, 33), (f"</{LONG}a>", 2, 34), (f"<a {LONG}a>", 2, 35), (f"<a b=c {LONG}->", 2, 39),
    ("<a b b>", 3, 6), ("<a b b/>", 3, 6), ("<a b b c>", 3, 6), ("<a b='c' b='d'>", 3, 10), ("<a c b c=d b>", 3, 8),
    ("<a b b,>", 1, 6), ("<a b b'>", 1, 6),
    ("&;", 4, 1), ("&lt", 7, 3), ("& ", 4, 1), ("&a&", 4, 2), ("&foo;", 4, 4), ("&AMP;", 4, 4), ("&amp ;", 4, 4),
    ("&#;", 4, 2), ("&#x;", 4, 3), ("&#X1;", 4, 4), ("&#a;", 4, 3), ("&#256;", 4, 5), ("&#999;", 4, 5),
    ("&#xg;", 4, 4), ("&#x1g;", 4, 5), ("&#xG0;", 4, 5), ("&#1a;", 4, 4), ("&##1;", 4, 4), ("&#0007;", 4, 5),
    ("&#x00f;", 4, 5), ("&quote;", 4, 5), ("&1;", 4, 2), ("&l;", 4, 2), ("&12;", 4, 3),
    ("&a1;", 4, 3), ("&x41;", 4, 4), ("&0#1;", 4, 4), ("&ltt;", 4, 4), ("&1234", 7, 5),
    ("&12345", 4, 5), ("<a b='&#256;'>", 4, 11), ("<a b=\"&x;\">", 4, 8), ("<a b=&;>", 4, 6), ("<a b=c&d>", 4, 8),
    ("<a b='&'>", 4, 7), ("&<", 4, 1), ("&-;", 4, 1),
    ("<calc></cal>", 6, 11), ("<calc></calcs>", 6, 12), ("<calc></calc >", 6, 12), ("<calc></verb>", 6, 8),
    ("<verb></ verb>", 6, 8), ("<verb></<>", 6, 8), ("<verb>a<b></b></verb>", 6, 12),
    ("x<calc>1<2</", 7, 12), ("<!--->", 7, 6), ("<!-->", 7, 5), ("<a b", 7, 4), ("<verb>", 7, 6), ("<calc>a<", 7, 8),
    ("<a b='c>", 7, 8),
]


class Faults(unittest.TestCase):

    def test_whole_texts(self):
        for text, kind, place in FAULTS:
            self.assertEqual(ask(minify(text), saved(text), laid(0, text), laid(80, text), tokens(text)),
                             [fault(kind, place)] * 5, text)

    def test_which_of_two_texts(self):
        for text, kind, place in FAULTS:
            self.assertEqual(ask(same(text, "<a>"), same("<a>", text), same(text, text)),
                             [[1, 0, kind, place], [1, 1, kind, place], [1, 0, kind, place]], text)

    def test_feed_and_end(self):
        for text, kind, place in FAULTS:
            answers = ask(feed(text), end())
            if kind == 7:
                self.assertEqual(answers[0][0], 0, text)
                self.assertEqual(answers[1], fault(kind, place), text)
            else:
                self.assertEqual(answers, [fault(kind, place), [-4]], text)

    def test_places_count_from_the_texts_beginning(self):
        for text, kind, place in FAULTS:
            answers = ask(feed("ab<b>"), feed("</b>"), feed(text), end())
            self.assertEqual(answers[:2], [wrote("ab"), wrote("<b/>")])
            wanted = answers[3] if kind == 7 else answers[2]
            self.assertEqual(wanted, fault(kind, place + 9), text)

    def test_sign_by_sign(self):
        for text, kind, place in FAULTS:
            answers = ask(*[feed(letter) for letter in text], end())
            found = [answer for answer in answers if answer[0] == 1]
            self.assertEqual(found, [fault(kind, place)], text)
            at = answers.index(found[0])
            self.assertEqual(at, place, text)
            self.assertTrue(all(answer == [-4] for answer in answers[at + 1:]), text)

    def test_whole_tokens_before_a_fault_are_not_written(self):
        self.assertEqual(ask(feed("a<b/>c<!")), [wrote("a<b/>c")])
        self.assertEqual(ask(feed("a<b/>c<!x")), [fault(1, 8)])

    def test_the_first_fault_is_told(self):
        self.assertEqual(ask(minify("<1<2")), [fault(1, 1)])

    def test_the_same_name_twice_in_other_tags_is_fine(self):
        self.assertEqual(ask(minify("<a b><a b/><a/>")), [wrote("<a b><a b/><a/>")])
        self.assertEqual(ask(minify("<a a aa>")), [wrote("<a a aa>")])

    def test_a_fault_leaves_nothing_for_the_next_call(self):
        self.assertEqual(ask(minify("<a b='c"), minify("x"), saved("<"), minify("y")),
                         [fault(7, 7), wrote("x"), fault(7, 1), wrote("y")])
        self.assertEqual(ask(laid(0, "<a b='c"), laid(0, "x"), tokens("<"), tokens("y"), same("<", "z"), same("", "")),
                         [fault(7, 7), wrote("x"), fault(7, 1), [0, 1, 0, 1, 121], [1, 0, 7, 1], [0, 1]])


if __name__ == "__main__":
    unittest.main()
