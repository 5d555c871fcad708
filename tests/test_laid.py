"""Texts laid out for a width."""

import unittest

from tests.helpers import ask, fault, laid, wrote

WIDEST = 2147483647


class Laid(unittest.TestCase):

    def check(self, text, *forms):
        """The forms for the widths 0, one less than the first tag in full has, just as many, one more, the largest."""
        whole = forms[-1]
        many = whole.index(">") + 1
        for width, form in ((0, forms[0]), (many - 1, forms[0]), (many, whole), (many + 1, whole), (WIDEST, whole)):
            self.assertEqual(ask(laid(width, text)), [wrote(form)], (text, width))


class Widths(Laid):

    def test_no_attribute(self):
        for text in ("<a>", "<a/>", "<long-name>"):
            self.check(text, text)

    def test_blanks_in_a_tag_without_attributes(self):
        self.check("<a  >", "<a>")
        self.check("<a\n/>", "<a/>")

    def test_one_attribute(self):
        self.check("<a b=c>", '<a\nb="c">', '<a b="c">')
        self.check("<a  b='c' />", '<a\nb="c"/>', '<a b="c"/>')

    def test_several_attributes(self):
        self.check("<a b=c d='e f' g>", '<a\nb="c"\nd="e f"\ng="">', '<a b="c" d="e f" g="">')
        self.check("<a b=c d='e f' g/>", '<a\nb="c"\nd="e f"\ng=""/>', '<a b="c" d="e f" g=""/>')

    def test_attributes_keep_their_order(self):
        self.check("<a z=1 b=2 y a=3>", '<a\nz="1"\nb="2"\ny=""\na="3">', '<a z="1" b="2" y="" a="3">')

    def test_blanks_in_values_stay(self):
        self.check("<a b='c d\te'>", '<a\nb="c d\te">', '<a b="c d\te">')
        self.check("<a b='c\nd' e=' '/>", '<a\nb="c\nd"\ne=" "/>', '<a b="c\nd" e=" "/>')

    def test_what_is_measured_is_the_tag_in_full(self):
        # Each has 9 signs in full, however long it is in the text.
        for text in ("<a b=c>", "<a     b   =c>".replace("   =", "="), "<a b=&#x63;>", '<a b="c"  >'):
            self.assertEqual(ask(laid(9, text), laid(8, text)), [wrote('<a b="c">'), wrote('<a\nb="c">')])

    def test_references_count_as_they_are_written(self):
        self.check("<a b=&amp;>", '<a\nb="&amp;">', '<a b="&amp;">')
        self.check("<a b='\"'>", '<a\nb="&quot;">', '<a b="&quot;">')

    def test_each_tag_is_measured_by_itself(self):
        self.assertEqual(ask(laid(10, "some text<a b=c><a b=cd><a b=cde><f/>")),
                         [wrote('some text<a b="c"><a b="cd"><a\nb="cde"><f/>')])

    def test_the_end_of_an_ended_tag_counts(self):
        self.assertEqual(ask(laid(9, "<a b=c><a b=c />")), [wrote('<a b="c"><a\nb="c"/>')])


class Values(Laid):

    def test_empty(self):
        for text in ("<a b>", "<a b=''>", '<a b="" >'):
            self.check(text, '<a\nb="">', '<a b="">')
        for text in ("<a b/>", "<a b=''/>", '<a b="" />'):
            self.check(text, '<a\nb=""/>', '<a b=""/>')

    def test_references(self):
        text = "<a b='&amp;&lt;&gt;&quot;&apos;\"&#97;&#x26;'>"
        self.assertEqual(ask(laid(99, text)), [wrote("<a b=\"&amp;<>&quot;'&quot;a&amp;\">")])
        self.assertEqual(ask(laid(9, text)), [wrote("<a\nb=\"&amp;<>&quot;'&quot;a&amp;\">")])

    def test_every_byte(self):
        for byte in range(256):
            inner = {34: "&quot;", 38: "&amp;"}.get(byte, chr(byte))
            self.assertEqual(ask(laid(99, f"<a b=&#{byte};>"), laid(0, f"<a b='&#{byte};'/>")),
                             [wrote(f'<a b="{inner}">'), wrote(f'<a\nb="{inner}"/>')], byte)

    def test_no_blank_before_the_end_of_a_bare_one(self):
        self.assertEqual(ask(laid(99, "<i j=/ />")), [wrote('<i j="/"/>')])
        self.assertEqual(ask(laid(99, "<i j=/>")), [wrote('<i j="/">')])


class OtherTokens(unittest.TestCase):

    def check(self, text, form):
        for width in (0, 1, len(form), 80, WIDEST):
            self.assertEqual(ask(laid(width, text)), [wrote(form)], (text, width))

    def test_nothing(self):
        self.check("", "")

    def test_runs_of_text(self):
        self.check("a b\nc", "a b\nc")
        self.check("a&amp;b&lt;c&gt;d>e", "a&amp;b&lt;c>d>e")
        self.check("&#38;&#60;&#62;&quot;&apos;", "&amp;&lt;>\"'")

    def test_every_byte_in_text(self):
        for byte in range(256):
            self.check(f"&#{byte};", {38: "&amp;", 60: "&lt;"}.get(byte, chr(byte)))

    def test_close_tags(self):
        self.check("</a></long-name>", "</a></long-name>")

    def test_comments(self):
        for text in ("<!---->", "<!-- a b -->", "<!--&<b c='d'>-->", "<!--a--->", "<!-->-->"):
            self.check(text, text)

    def test_raw_text(self):
        for text in ("<calc>1<2&&</calc>", "<verb><a  b='c'>&lt;</verb>", "<calc> </calc>"):
            self.check(text, text)

    def test_tokens_are_not_the_normal_ones(self):
        for text in ("<b></b>", "<b/>", "<calc></calc>", "<calc/>", "<b><b></b></b>"):
            self.check(text, text)
        self.assertEqual(ask(laid(9, "<a b=c></a>")), [wrote('<a b="c"></a>')])
        self.assertEqual(ask(laid(8, "<a b=c></a>")), [wrote('<a\nb="c"></a>')])

    def test_all_together(self):
        text = "x&#38;<a  b='c' d>y</a><!-- e --><calc f=g>1<2</calc><i></i>"
        self.assertEqual(ask(laid(14, text)),
                         [wrote('x&amp;<a b="c" d="">y</a><!-- e --><calc f="g">1<2</calc><i></i>')])
        self.assertEqual(ask(laid(13, text)),
                         [wrote('x&amp;<a\nb="c"\nd="">y</a><!-- e --><calc f="g">1<2</calc><i></i>')])
        self.assertEqual(ask(laid(11, text)),
                         [wrote('x&amp;<a\nb="c"\nd="">y</a><!-- e --><calc\nf="g">1<2</calc><i></i>')])


class Long(unittest.TestCase):

    def test_the_longest_answers(self):
        # Each of 8192 bytes: nothing that is written is longer.
        for start, stop in (("<a b='", "'>"), ("<a b='", "'/>")):
            many = 8192 - len(start + stop)
            form = '<a b="' + "&quot;" * many + '"' + stop[1:]
            text = start + '"' * many + stop
            # No assertEqual: to show where lists as long as these differ takes it many minutes.
            self.assertTrue(ask(laid(len(form), text)) == [wrote(form)])
            self.assertTrue(ask(laid(len(form) - 1, text)) == [wrote(form.replace(" ", "\n"))])

    def test_faults(self):
        self.assertEqual(ask(laid(0, "x<a b=c><"), laid(9, "<a b = ..."), laid(WIDEST, "&;")),
                         [fault(7, 9), fault(1, 5), fault(4, 1)])


if __name__ == "__main__":
    unittest.main()
