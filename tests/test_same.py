"""Whether two texts have the same normal tokens."""

import unittest

from tests.helpers import ask, fault, same

ALIKE = [
    ("", ""),
    ("a", "&#97;"),
    ("&lt;&amp;>", "&#60;&#x26;&gt;"),
    ("<a b=c>", "<a  b='c' >"),
    ("<a b=c>", '<a\n\tb="&#99;">'),
    ("<a b>", "<a b=''>"),
    ("<a b>", '<a b="" >'),
    ("<a b=c />", "<a b='c'/>"),
    ("<a b=c/>", "<a b='c/'>"),
    ("<a b='\"'>", "<a b=&quot;>"),
    ("<b></b>", "<b/>"),
    ("<b></b>", "<b  />"),
    ("<b c=d></b>", "<b c='d'/>"),
    ("<calc></calc>", "<calc/>"),
    ("<verb></verb>", "<verb />"),
    ("<b><b></b></b>", "<b><b/></b>"),
    ("x<b/>y", "&#120;<b></b>&#121;"),
    ("&#97;&#97;<a>", "aa<a>"),
    ("<a  ><!--x--></a>", "<a><!--x--></a>"),
    ("<calc>1<2</calc>", "<calc >1<2</calc>"),
]

OTHER = [
    ("", "a"), ("", "<a>"), ("", "<!---->"), ("a", "b"), ("a", "aa"), ("a", " a"), ("a", "A"), ("\n", "\r"),
    ("&amp;lt;", "&lt;"),
    # A value, or whether there is one.
    ("<a b=c>", "<a b=d>"), ("<a b=c>", "<a b>"), ("<a b=c>", "<a b='c '>"), ("<a b='c d'>", "<a b='c  d'>"),
    ("<a b=c>", "<a b=cc>"), ("<a b=c/>", "<a b=c />"), ("<a b=c d=e>", "<a b=e d=c>"),
    # A name.
    ("<a>", "<b>"), ("</a>", "</b>"), ("<a/>", "<b/>"), ("<a b=c>", "<a d=c>"), ("<a>", "<aa>"), ("<a b>", "<a c>"),
    ("<ab c>", "<a bc>"), ("<a bc=d>", "<a b=cd>"), ("<calc></calc>", "<verb></verb>"),
    # Attributes: which, how many, in which order.
    ("<a b>", "<a>"), ("<a b c>", "<a c b>"), ("<a b=1 c=2>", "<a c=2 b=1>"), ("<a b c>", "<a b>"),
    ("<a b c>", "<a b=c>"),
    # The kind of a token, whether a tag is ended.
    ("<a>", "</a>"), ("<a>", "<a/>"), ("<a/>", "</a>"), ("<b>x</b>", "<b/>"), ("<b> </b>", "<b></b>"),
    ("<!--a-->", "a"), ("<!--a-->", "<calc>a</calc>"), ("<!--a-->", "<!--b-->"), ("<!---->", "<!-- -->"),
    ("<!--<a>-->", "<a>"), ("&lt;a>", "<a>"), ("a", "<a>"), ("<calc>a</calc>", "<calc>b</calc>"),
    ("<calc>&#97;</calc>", "<calc>a</calc>"), ("<!--&#97;-->", "<!--a-->"),
    # How the same signs are divided.
    ("ab", "a<!---->b"), ("<a><b>", "<b><a>"), ("a<b>", "<b>a"), ("<a></a><a>", "<a><a></a>"),
    ("<b></b></b>", "<b><b></b>"), ("<a/><a/>", "<a/>"), ("<b><!----></b>", "<b/>"),
]

FINE = ("", "x", "<a b=c></a>")
FAULTY = (("<", 7, 1), ("<1", 1, 1), ("x&;", 4, 2), ("<a b b>", 3, 6), ("<calc></b", 6, 8), ("<" + "a" * 33, 2, 33))


class Same(unittest.TestCase):

    def test_alike(self):
        for first, second in ALIKE:
            self.assertEqual(ask(same(first, second), same(second, first)), [[0, 1]] * 2, (first, second))

    def test_with_itself(self):
        for pair in ALIKE + OTHER:
            for text in pair:
                self.assertEqual(ask(same(text, text)), [[0, 1]], text)

    def test_other(self):
        for first, second in OTHER:
            self.assertEqual(ask(same(first, second), same(second, first)), [[0, 0]] * 2, (first, second))

    def test_behind_and_before_other_tokens(self):
        for before, behind in (("x", "<b/>"), ("<b>", "</b>"), ("<!--y-->", "z"), ("<calc></calc>", "<i j='k'>")):
            self.assertEqual(ask(same(before + "<a b=c>" + behind, before + "<a  b='c'>" + behind),
                                 same(before + "<a b=c>" + behind, before + "<a b=d>" + behind)), [[0, 1], [0, 0]])

    def test_places_alone(self):
        # The same tokens at other places, for what comes before them is longer.
        self.assertEqual(ask(same("&#97;<b/><!--c--><calc>d</calc>e", "a<b></b><!--c--><calc >d</calc>e")), [[0, 1]])

    def test_alike_signs_in_different_kinds(self):
        texts = ["a", "<a>", "</a>", "<a/>", "<!--a-->", "<calc>a</calc>", "<verb>a</verb>"]
        for first in texts:
            for second in texts:
                self.assertEqual(ask(same(first, second)), [[0, 1 if first == second else 0]])

    def test_long_texts(self):
        for first, second in (("<b></b>" * 1170, "<b/>" * 1170), ("&#97;" * 1638, "a" * 1638)):
            self.assertEqual(ask(same(first, second), same(first, second + "x")), [[0, 1], [0, 0]])

    def test_a_fault_of_the_first(self):
        for text, kind, place in FAULTY:
            for other in FINE:
                self.assertEqual(ask(same(text, other)), [[1, 0, kind, place]], text)

    def test_a_fault_of_the_second(self):
        for text, kind, place in FAULTY:
            for other in FINE:
                self.assertEqual(ask(same(other, text)), [[1, 1, kind, place]], text)

    def test_a_fault_of_both(self):
        for first, kind, place in FAULTY:
            for second, other_kind, other_place in FAULTY:
                self.assertEqual(ask(same(first, second)), [[1, 0, kind, place]], (first, second))

    def test_the_first_of_the_two_is_read_to_its_end(self):
        self.assertEqual(ask(same("abc<", "<1")), [[1, 0] + fault(7, 4)[1:]])


if __name__ == "__main__":
    unittest.main()
