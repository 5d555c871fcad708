"""The call tokens: the normal tokens of a text, told as numbers."""

import unittest

from shortmark.desk import answers
from tests.helpers import ask, counted, fault, tokens


def run(text):
    return [0] + counted(text)


def tag(name, ended, *pairs):
    numbers = [1, ended] + counted(name) + [len(pairs)]
    for key, value in pairs:
        numbers += counted(key) + counted(value)
    return numbers


def close(name):
    return [2] + counted(name)


def comment(text):
    return [3] + counted(text)


def raw(text):
    return [4] + counted(text)


class Told(unittest.TestCase):

    def check(self, text, *wanted):
        self.assertEqual(ask(tokens(text)), [[0, len(wanted)] + [number for row in wanted for number in row]], text)

    def test_an_empty_text(self):
        self.assertEqual(answers([8, 0]), [2, 0, 0])

    def test_number_by_number(self):
        # "<a b=cd e>x"
        self.assertEqual(answers([8, 11, 60, 97, 32, 98, 61, 99, 100, 32, 101, 62, 120]),
                         [18, 0, 2, 1, 0, 1, 97, 2, 1, 98, 2, 99, 100, 1, 101, 0, 0, 1, 120])
        # "</ab><!--c--><i/>"
        self.assertEqual(answers([8, 17, 60, 47, 97, 98, 62, 60, 33, 45, 45, 99, 45, 45, 62, 60, 105, 47, 62]),
                         [14, 0, 3, 2, 2, 97, 98, 3, 1, 99, 1, 1, 1, 105, 0])
        # "<calc>1</calc>"
        self.assertEqual(answers([8, 14, 60, 99, 97, 108, 99, 62, 49, 60, 47, 99, 97, 108, 99, 62]),
                         [19, 0, 3, 1, 0, 4, 99, 97, 108, 99, 0, 4, 1, 49, 2, 4, 99, 97, 108, 99])

    def test_runs_of_text(self):
        self.check("a", run("a"))
        self.check("a&amp;b&#99;&lt;", run("a&bc<"))
        self.check(" \n", run(" \n"))
        self.check("&#0;&#255;", run([0, 255]))

    def test_open_tags(self):
        self.check("<a>", tag("a", 0))
        self.check("<a/>", tag("a", 1))
        self.check("<a-9 />", tag("a-9", 1))
        self.check("<" + "a" * 32 + ">", tag("a" * 32, 0))

    def test_attributes(self):
        self.check("<a b>", tag("a", 0, ("b", "")))
        self.check("<a b=''>", tag("a", 0, ("b", "")))
        self.check("<a b=c/>", tag("a", 0, ("b", "c/")))
        self.check("<a b=c />", tag("a", 1, ("b", "c")))
        self.check("<a z='1 2' b y=\"&quot;\" c=&#100;e/>", tag("a", 0, ("z", "1 2"), ("b", ""), ("y", '"'),
                                                              ("c", "de/")))
        self.check("<a long-name='x'  s=''/>", tag("a", 1, ("long-name", "x"), ("s", "")))

    def test_close_tags(self):
        self.check("</a>", close("a"))
        self.check("</calc></long-name>", close("calc"), close("long-name"))

    def test_comments(self):
        self.check("<!---->", comment(""))
        self.check("<!--a-->", comment("a"))
        self.check("<!-- &lt;--b--->", comment(" &lt;--b-"))

    def test_raw_text(self):
        self.check("<calc>1<2</calc>", tag("calc", 0), raw("1<2"), close("calc"))
        self.check("<verb a=b>&lt;<</verb>", tag("verb", 0, ("a", "b")), raw("&lt;<"), close("verb"))

    def test_joined_tags(self):
        self.check("<b></b>", tag("b", 1))
        self.check("<b c=d></b>", tag("b", 1, ("c", "d")))
        self.check("<calc></calc>", tag("calc", 1))
        self.check("<calc/>", tag("calc", 1))
        self.check("<b><b></b></b>", tag("b", 0), tag("b", 1), close("b"))
        self.check("<b></b></b>", tag("b", 1), close("b"))
        self.check("<b/></b>", tag("b", 1), close("b"))

    def test_tags_that_are_not_joined(self):
        self.check("<b></c>", tag("b", 0), close("c"))
        self.check("<b></bb>", tag("b", 0), close("bb"))
        self.check("<b> </b>", tag("b", 0), run(" "), close("b"))
        self.check("<b><!----></b>", tag("b", 0), comment(""), close("b"))
        self.check("</b><b>", close("b"), tag("b", 0))

    def test_the_last_tag_is_told(self):
        self.check("x<b>", run("x"), tag("b", 0))
        self.check("<a><b>", tag("a", 0), tag("b", 0))

    def test_one_right_behind_the_other(self):
        self.check("x&#97;<a b=c d>&lt;</a><!--e--><i/><calc>1<2</calc><verb></verb>z",
                   run("xa"), tag("a", 0, ("b", "c"), ("d", "")), run("<"), close("a"), comment("e"), tag("i", 1),
                   tag("calc", 0), raw("1<2"), close("calc"), tag("verb", 1), run("z"))

    def test_no_places(self):
        self.assertEqual(ask(tokens("a<b/>")), ask(tokens("&#97;<b  />")))

    def test_every_byte(self):
        row = list(range(256))
        text = [byte for byte in row if byte not in (38, 60)]
        self.check(text, run(text))
        self.check([60, 33, 45, 45] + row + [45, 45, 62], comment(row))
        self.check([60, 118, 101, 114, 98, 62] + row + [60, 47, 118, 101, 114, 98, 62], tag("verb", 0), raw(row),
                   close("verb"))

    def test_many(self):
        for text, many, numbers in (("<b>" * 2730, 2730, tag("b", 0) * 2730),
                                    ("<b></b>" * 1170, 1170, tag("b", 1) * 1170),
                                    ("a" * 8192, 1, run("a" * 8192))):
            # No assertEqual: to show where lists as long as these differ takes it many minutes.
            self.assertTrue(ask(tokens(text)) == [[0, many] + numbers], text[:9])

    def test_faults(self):
        for text, kind, place in (("<", 7, 1), ("<1", 1, 1), ("<a b b>", 3, 6), ("&foo;", 4, 4), ("<calc></b", 6, 8),
                                  ("</" + "a" * 33, 2, 34), ("x<b></b><!", 7, 10)):
            self.assertEqual(ask(tokens(text)), [fault(kind, place)], text)


if __name__ == "__main__":
    unittest.main()
