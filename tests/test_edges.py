"""The edges of names, references, comments and raw text."""

import unittest

from tests.helpers import ask, fault, minified, minify, signs, wrote


class Names(unittest.TestCase):

    def test_of_32_and_33_signs(self):
        whole = "a" + "-9z" * 10 + "b"
        self.assertEqual(len(whole), 32)
        for form, place in (("<{}>", 33), ("</{}>", 34), ("<x {}>", 35), ("<x {}=y>", 35)):
            self.assertEqual(minified(form.format(whole)), form.format(whole))
            self.assertEqual(ask(minify(form.format(whole + "c"))), [fault(2, place)])

    def test_a_sign_that_is_no_name_sign_is_kind_1_even_then(self):
        self.assertEqual(ask(minify("<" + "a" * 32 + "A")), [fault(1, 33)])


class References(unittest.TestCase):

    def test_named(self):
        self.assertEqual(minified("<a b='&amp;&lt;&gt;&quot;&apos;'>"), "<a b=\"&amp;<>&#34;'\">")
        self.assertEqual(minified("&amp;&lt;&gt;&quot;&apos;"), "&amp;&lt;>\"'")

    def test_every_decimal_number(self):
        for byte in range(256):
            wanted = {38: "&amp;", 60: "&lt;"}.get(byte, chr(byte))
            for body in {f"{byte}", f"{byte:02}", f"{byte:03}"}:
                self.assertEqual(minified(f"&#{body};"), wanted)

    def test_every_hexadecimal_number(self):
        for byte in range(256):
            wanted = {38: "&amp;", 60: "&lt;"}.get(byte, chr(byte))
            for body in {f"{byte:x}", f"{byte:X}", f"{byte:02x}", f"{byte:02X}"}:
                self.assertEqual(minified(f"&#x{body};"), wanted)

    def test_no_bytes(self):
        self.assertEqual(ask(minify("&#255;")), [[0, 1, 255]])
        for number in range(256, 1000):
            self.assertEqual(ask(minify(f"&#{number};")), [fault(4, 5)])

    def test_bodies_of_4_and_5_signs(self):
        self.assertEqual(minified("&quot;"), '"')
        self.assertEqual(minified("&#xfF;"), "\xff")
        self.assertEqual(ask(minify("&quotx")), [fault(4, 5)])
        self.assertEqual(ask(minify("&aaaa")), [fault(7, 5)])

    def test_in_every_sort_of_value(self):
        self.assertEqual(minified('<a b="&#97;c">'), "<a b=ac>")
        self.assertEqual(minified("<a b='&#97;c'>"), "<a b=ac>")
        self.assertEqual(minified("<a b=&#97;c&#x64;>"), "<a b=acd>")
        self.assertEqual(minified("<a b=&#32;c>"), '<a b=" c">')

    def test_a_byte_from_a_reference_is_not_read_again(self):
        self.assertEqual(minified("&#60;b>&#38;lt;"), "&lt;b>&amp;lt;")


class Comments(unittest.TestCase):

    def test_that_end_in_several_dashes(self):
        for text in ("<!---->", "<!----->", "<!-------->", "<!--a--->", "<!--a--b-->", "<!--a- - -->", "<!--->-->",
                     "<!-->-->", "<!--<b>&x;--!>-->", "<!-- ->-->"):
            self.assertEqual(minified(text), text)
            self.assertEqual(minified(text + "x" + text), text + "x" + text)

    def test_end_at_the_first_end(self):
        self.assertEqual(minified("<!--a-->&#98;-->"), "<!--a-->b-->")

    def test_not_ended_yet(self):
        self.assertEqual(ask(minify("<!-->")), [fault(7, 5)])
        self.assertEqual(ask(minify("<!--->")), [fault(7, 6)])

    def test_of_every_byte(self):
        text = signs("<!--") + list(range(256)) + signs("-->")
        self.assertEqual(ask(minify(text)), [wrote(text)])


class RawText(unittest.TestCase):

    def test_stays_as_it_is(self):
        for name in ("calc", "verb"):
            for inner in ("a", "<", "<<", "<<<", "a<b", "a<<b>", "&lt;", "&", "<b>", "<!--", "a < / b", " ", "<>"):
                text = f"<{name}>{inner}</{name}>"
                self.assertEqual(minified(text), text)

    def test_of_every_byte(self):
        text = signs("<verb>") + list(range(256)) + signs("</verb>")
        self.assertEqual(ask(minify(text)), [wrote(text)])

    def test_a_close_tag_must_be_its_own(self):
        self.assertEqual(ask(minify("<calc>a</b></calc>")), [fault(6, 9)])
        self.assertEqual(ask(minify("<calc>a<</x")), [fault(6, 10)])

    def test_none(self):
        self.assertEqual(minified("<calc></calc>"), "<calc/>")
        self.assertEqual(minified("<calc/>"), "<calc/>")
        self.assertEqual(minified("<verb a='b'></verb>"), "<verb a=b />")

    def test_ended_begins_none(self):
        self.assertEqual(minified("<calc/>&#97;<b></b>"), "<calc/>a<b/>")

    def test_behind_it_is_text(self):
        self.assertEqual(minified("<calc>&#97;</calc>&#97;<calc>1<2</calc>"), "<calc>&#97;</calc>a<calc>1<2</calc>")

    def test_other_names_and_close_tags_begin_none(self):
        for text in ("<calcs>&#97;", "<cal>&#97;", "<verbs>&#97;", "</calc>&#97;", "<a calc>&#97;"):
            self.assertEqual(minified(text), text.replace("&#97;", "a"))


class NormalTokens(unittest.TestCase):

    def test_close_right_behind_open(self):
        self.assertEqual(minified("<b><b></b></b>"), "<b><b/></b>")
        self.assertEqual(minified("<b></b></b>"), "<b/></b>")
        self.assertEqual(minified("<b><c></b>"), "<b><c></b>")
        self.assertEqual(minified("<b></bb>"), "<b></bb>")
        self.assertEqual(minified("<b/></b>"), "<b/></b>")
        self.assertEqual(minified("</b><b>"), "</b><b>")

    def test_with_something_between(self):
        for inner in (" ", "x", "<!---->", "<i/>"):
            self.assertEqual(minified(f"<b>{inner}</b>"), f"<b>{inner}</b>")

    def test_the_first_ones_attributes_stay(self):
        self.assertEqual(minified("<b z y=x></b>"), "<b z y=x />")


if __name__ == "__main__":
    unittest.main()
