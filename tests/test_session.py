"""A text that is fed in pieces: begin, feed, end."""

import unittest

from shortmark.desk import answers
from tests.helpers import (
    ask, begin, counted, end, fault, feed, laid, minified, minify, same, saved, signs, split, tokens, value,
    wrote,
)

TEXT = ("x &#38; y<a  b='c d' e=\"\" f='g'></a><i j='/'/><b><b></b></b><!-- a--b---><calc>1<2<<&</calc>"
        "<verb></verb><p k=&#97;&lt; l='&quot;' m=\"'\"><q/></p>&#x7a;<s></s><t>")


def fed(pieces):
    """What feed and end write for these pieces, put one behind the other."""
    found = ask(*[feed(piece) for piece in pieces], end())
    for answer in found:
        if answer[0] != 0 or answer[1] != len(answer) - 2:
            raise ValueError(f"no bytes: {answer}")
    return "".join(chr(sign) for answer in found for sign in answer[2:])


class Pieces(unittest.TestCase):

    def test_cut_at_each_place(self):
        whole = minified(TEXT)
        for place in range(len(TEXT) + 1):
            self.assertEqual(fed([TEXT[:place], TEXT[place:]]), whole, place)

    def test_sign_by_sign(self):
        for start in range(0, len(TEXT), 90):
            part = TEXT[start:start + 90]
            self.assertEqual(fed([TEXT[:start]] + list(part) + [TEXT[start + 90:]]), minified(TEXT))

    def test_empty_pieces(self):
        self.assertEqual(ask(feed("<b"), feed(""), feed("></b"), feed(""), feed(">"), end()),
                         [wrote(""), wrote(""), wrote(""), wrote(""), wrote("<b/>"), wrote("")])

    def test_what_is_held_back(self):
        self.assertEqual(ask(feed("<b>"), feed("<c>"), feed("x"), feed("<d/>"), feed("</c>"), feed("</b>"), end()),
                         [wrote(""), wrote("<b>"), wrote(""), wrote("<c>x<d/>"), wrote("</c>"), wrote("</b>"),
                          wrote("")])

    def test_a_held_tag_and_another_close_tag(self):
        self.assertEqual(ask(feed("<b>"), feed("</c>")), [wrote(""), wrote("<b></c>")])

    def test_a_held_tag_and_its_close_tag(self):
        self.assertEqual(ask(feed("<b c='d'>"), feed("</b>"), feed("</b>")),
                         [wrote(""), wrote("<b c=d />"), wrote("</b>")])

    def test_other_tokens_are_written_at_once(self):
        self.assertEqual(ask(feed("<b/>"), feed("</b>"), feed("<!--a-->"), feed("x"), feed("<")),
                         [wrote("<b/>"), wrote("</b>"), wrote("<!--a-->"), wrote(""), wrote("x")])

    def test_raw_text_is_written_with_its_close_tag(self):
        self.assertEqual(ask(feed("<calc>"), feed("a<"), feed("b</calc"), feed(">"), end()),
                         [wrote(""), wrote(""), wrote(""), wrote("<calc>a<b</calc>"), wrote("")])
        self.assertEqual(ask(feed("<calc>"), feed("</calc>")), [wrote(""), wrote("<calc/>")])

    def test_a_held_tag_before_text_waits_for_the_run(self):
        self.assertEqual(ask(feed("<b>"), feed("x"), end()), [wrote(""), wrote(""), wrote("<b>x")])


class End(unittest.TestCase):

    def test_writes_the_last_run(self):
        self.assertEqual(ask(feed("a&#98;"), end()), [wrote(""), wrote("ab")])

    def test_writes_the_tag_that_is_held_back(self):
        self.assertEqual(ask(feed("<b c='d'>"), end()), [wrote(""), wrote("<b c=d>")])

    def test_of_nothing(self):
        self.assertEqual(ask(end()), [wrote("")])

    def test_at_a_fault(self):
        self.assertEqual(ask(feed("a<b>"), feed("<c"), end(), end(), feed("")),
                         [wrote("a"), wrote(""), fault(7, 6), [-4], [-4]])

    def test_ends_the_text(self):
        self.assertEqual(ask(feed("a"), end(), end(), feed("b")), [wrote(""), wrote("a"), [-4], [-4]])


class Begin(unittest.TestCase):

    def test_answers_0(self):
        self.assertEqual(answers([0]), [1, 0])

    def test_after_an_end(self):
        self.assertEqual(ask(feed("a"), end(), begin(), feed("b"), end()),
                         [wrote(""), wrote("a"), [0], wrote(""), wrote("b")])

    def test_after_a_fault(self):
        self.assertEqual(ask(feed("ab<1"), begin(), feed("c<1")), [fault(1, 3), [0], fault(1, 2)])
        self.assertEqual(ask(feed("<a b='c"), end(), begin(), feed("c"), end()),
                         [wrote(""), fault(7, 7), [0], wrote(""), wrote("c")])

    def test_in_the_midst(self):
        self.assertEqual(ask(feed("x<b>"), begin(), feed("</b>"), end()),
                         [wrote("x"), [0], wrote("</b>"), wrote("")])
        for text in ("<a b='c", "<a b c", "&am", "<!--a-", "<calc>a</ca", "run", "</a"):
            self.assertEqual(ask(feed(text), begin(), feed("<a b='c'>&lt;"), end()),
                             [wrote(""), [0], wrote(""), wrote("<a b=c>&lt;")], text)


class OtherCalls(unittest.TestCase):

    def test_leave_the_text_as_it_was(self):
        others = [minify("<b></b>"), saved("x<"), minify("<c"), minify([256]), saved([-1]), saved("<d></d>"),
                  laid(0, "x<b c=d>"), laid(9, "<e"), laid(-1, ""), same("<b></b>", "<b/>"), same("<", "x"),
                  same("x", [256]), value(1, "/"), value(0, "<b>"), value(2, ""), tokens("</b><b>"), tokens("</b"),
                  tokens([-1])]
        step = len(others) + 1
        alone = ask(*others)
        for place in range(0, len(TEXT) + 1, 3):
            found = ask(feed(TEXT[:place]), *others, feed(TEXT[place:]), *others, end(), *others)
            written = found[0][2:] + found[step][2:] + found[2 * step][2:]
            self.assertEqual(written, signs(minified(TEXT)), place)
            for start in (1, 1 + step, 1 + 2 * step):
                self.assertEqual(found[start:start + len(others)], alone)

    def test_each_leaves_the_text_as_it_was(self):
        for other in (laid(0, "</b>y"), same("</b>", "<b>"), value(1, "</b>"), tokens("</b>y"), minify("</b>"),
                      saved("</b>")):
            self.assertEqual(ask(feed("x<b>"), other, feed("</b>"), other, end())[::2],
                             [wrote("x"), wrote("<b/>"), wrote("")])
            self.assertEqual(ask(feed("a&l"), other, feed("t;"), other, end())[::2],
                             [wrote(""), wrote(""), wrote("a&lt;")])

    def test_answer_whatever_the_text_is_like(self):
        self.assertEqual(ask(feed("<1"), minify("&#97;"), saved("&#97;"), end()),
                         [fault(1, 1), wrote("a"), [0, 4, 0, 0], [-4]])
        self.assertEqual(ask(end(), minify("&#97;"), end()), [wrote(""), wrote("a"), [-4]])
        for over in (feed("<1"), end()):
            self.assertEqual(ask(over, laid(0, "&#97;"), same("a", "&#97;"), value(1, "a"), tokens("a"), end())[1:],
                             [wrote("a"), [0, 1], counted("a "), [0, 1, 0, 1, 97], [-4]])


class Interface(unittest.TestCase):

    def test_the_list_is_not_changed(self):
        calls = (feed(TEXT) + minify(TEXT) + saved(TEXT) + feed([300]) + end() + end() + begin() + laid(0, TEXT)
                 + laid(-1, TEXT) + same(TEXT, TEXT) + same("<", [300]) + value(1, TEXT) + value(7, "") + tokens(TEXT)
                 + tokens("<1"))
        kept = list(calls)
        answers(calls)
        self.assertEqual(calls, kept)

    def test_every_call_in_mixed_order(self):
        found = answers(tokens("<b></b>") + feed("<b>") + value(1, "/") + same("a", "&#97;") + laid(0, "<a b=c>")
                        + end() + saved("&#97;") + minify("<b></b>") + feed("x") + begin() + value(0, "")
                        + feed("y") + tokens("<") + laid(9, "<a b=c>") + same("a", "<") + end() + laid(-1, "a"))
        self.assertEqual(split(found), [
            [0, 1, 1, 1, 1, 98, 0], wrote(""), counted("/ "), [0, 1], wrote('<a\nb="c">'),
            wrote("<b>"), [0, 4, 0, 0], wrote("<b/>"), [-4], [0], counted('""'),
            wrote(""), fault(7, 1), wrote('<a b="c">'), [1, 1, 7, 1], wrote("y"), [-5],
        ])

    def test_calls_in_many_orders(self):
        # Calls that leave the text alone are answered the same wherever they stand.
        calls = [minify("<b></b>"), saved("&#97;"), laid(3, "<a b>"), same("<b></b>", "<b/>"), value(1, "a"),
                 tokens("<a b=c>d"), laid(-1, ""), same([256], ""), value(2, ""), tokens("<")]
        alone = [ask(call)[0] for call in calls]
        for shift in range(len(calls)):
            for step in (1, 3, 7, 9):
                order = [(shift + step * index) % len(calls) for index in range(len(calls))]
                self.assertEqual(ask(*[calls[index] for index in order]), [alone[index] for index in order])

    def test_nothing_is_kept_from_one_time_to_the_next(self):
        calls = feed("<b>") + minify(TEXT) + laid(9, TEXT) + same(TEXT, "x") + value(1, TEXT) + tokens(TEXT)
        first = answers(calls)
        self.assertEqual(answers(calls), first)
        self.assertEqual(ask(end()), [wrote("")])
        self.assertEqual(answers(feed("<1")), [3, 1, 1, 1])
        self.assertEqual(ask(feed("a"), end()), [wrote(""), wrote("a")])

    def test_an_answer_that_is_changed_changes_nothing(self):
        first = answers(minify("ab"))
        first[2] = 77
        self.assertEqual(answers(minify("ab")), [4, 0, 2, 97, 98])

    def test_whole_numbers_alone(self):
        found = answers(feed(TEXT) + end() + end() + minify("<1") + saved(TEXT) + begin() + laid(9, TEXT)
                        + same(TEXT, TEXT) + same(TEXT, "x") + value(1, TEXT) + tokens(TEXT) + same("<", "x"))
        self.assertIs(type(found), list)
        self.assertEqual({type(number) for number in found}, {int})

    def test_long_texts(self):
        for text in ("<b>" * 2730, "</b>" * 2048, "<b/>" * 2048, "&lt;" * 2048, "<" + "a" * 32 + " " * 8150 + ">",
                     "<!--" + "-" * 8185 + "-->", "<calc>" + "<" * 8179 + "</calc>"):
            self.assertLessEqual(len(text), 8192)
            found = ask(minify(text), saved(text), feed(text), feed(text), end())
            self.assertEqual([answer[0] for answer in found], [0] * 5)
            written = [sign for answer in found[2:] for sign in answer[2:]]
            self.assertEqual(written, found[0][2:] * 2)
            self.assertEqual([answer[0] for answer in ask(laid(0, text), tokens(text), same(text, text))], [0] * 3)

    def test_a_tag_with_many_attributes(self):
        names = [x + y + z for x in "abcdefghijklm" for y in "abcdefghij" for z in "0123456789"]
        text = "<a " + " ".join(names) + ">"
        self.assertEqual(minified(text), text)
        self.assertEqual(ask(minify(text[:-1] + " aa0>")), [fault(3, len(text) - 1 + 4)])
        in_full = "<a" + "".join(f' {name}=""' for name in names) + ">"
        self.assertEqual(ask(laid(len(in_full), text)), [wrote(in_full)])
        self.assertEqual(ask(laid(len(in_full) - 1, text)), [wrote(in_full.replace(" ", "\n"))])
        self.assertEqual(ask(tokens(text))[0][:6], [0, 1, 1, 0, 1, 97])
        self.assertEqual(ask(tokens(text))[0][6], len(names))

    def test_a_hundred_calls(self):
        self.assertEqual(ask(*[feed("a")] * 99, end()), [wrote("")] * 99 + [wrote("a" * 99)])


if __name__ == "__main__":
    unittest.main()
