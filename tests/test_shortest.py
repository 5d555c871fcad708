"""Shortest forms: text, values and tags."""

import unittest

from shortmark.shortest import bare_form, cheapest_form
from tests.helpers import ask, minified, minify, signs, wrote


def cheapest(value, tight):
    return "".join(map(chr, cheapest_form(signs(value), tight)))


class Text(unittest.TestCase):

    def test_every_byte(self):
        text = [byte for byte in range(256) if byte not in (38, 60)]
        self.assertEqual(ask(minify(text)), [wrote(text)])

    def test_blanks_and_comments_stay(self):
        text = " a\t\r\n <!-- b --> "
        self.assertEqual(minified(text), text)


class Values(unittest.TestCase):

    def test_bare(self):
        for value, form in (("c", "c"), ("/", "/"), ("a&b", "a&amp;b"), ("&&", "&amp;&amp;"), ("c/d;#", "c/d;#"),
                            ("\x00\x0b\xff", "\x00\x0b\xff")):
            self.assertEqual(cheapest(value, 0), form)
            self.assertEqual(cheapest(value, 1), form + " ")

    def test_bare_forms_of_signs_that_are_not_bare(self):
        written = bare_form(signs("a<>&\"'=` \t\n\r"), 0)
        self.assertEqual(written, signs("a&lt;&gt;&amp;&#34;&#39;&#61;&#96;&#32;&#9;&#10;&#13;"))

    def test_every_byte_alone(self):
        for byte in range(256):
            sign = chr(byte)
            wanted = sign
            if sign in "\t\n\r '<=>`":
                wanted = f'"{sign}"'
            if sign == '"':
                wanted = "'\"'"
            if sign == "&":
                wanted = "&amp;"
            self.assertEqual(cheapest(sign, 0), wanted)

    def test_between_double_quotes(self):
        for value in ("c d", "'", "a'b", "<", ">", "=", "`", "\n", "a b'c'"):
            for tight in (0, 1):
                self.assertEqual(cheapest(value, tight), f'"{value}"')

    def test_between_single_quotes(self):
        for value in ('"', 'a"b', 'say "x y"'):
            for tight in (0, 1):
                self.assertEqual(cheapest(value, tight), f"'{value}'")

    def test_equal_costs_take_double_quotes(self):
        self.assertEqual(cheapest("\"'", 0), "\"&#34;'\"")
        self.assertEqual(cheapest("'\"", 1), "\"'&#34;\"")
        self.assertEqual(cheapest("a \"'\"'", 0), "\"a &#34;'&#34;'\"")

    def test_one_more_of_a_quote_takes_the_other(self):
        self.assertEqual(cheapest("\"\"'", 0), "'\"\"&#39;'")
        self.assertEqual(cheapest("\"''", 0), "\"&#34;''\"")

    def test_references_between_quotes(self):
        self.assertEqual(cheapest("a & <b> 'c'", 0), "\"a &amp; <b> 'c'\"")
        self.assertEqual(cheapest('a & <b> "c"', 0), "'a &amp; <b> \"c\"'")

    def test_no_bytes(self):
        for tight in (0, 1):
            self.assertEqual(cheapest("", tight), '""')

    def test_never_longer_than_any_written_form(self):
        # Every value of up to three of these signs, against all ways to write each quoting.
        some = "a/ \"'&<>="
        values = [""] + [x + y + z for x in some for y in [""] + list(some) for z in [""] + list(some)]
        for value in values:
            double = value.replace("&", "&amp;").replace('"', "&#34;")
            single = value.replace("&", "&amp;").replace("'", "&#39;")
            for tight in (0, 1):
                costs = [len(double) + 2, len(single) + 2]
                if value:
                    bare = "".join({"&": "&amp;", "<": "&lt;", ">": "&gt;"}.get(sign, f"&#{ord(sign)};")
                                   if sign in " \"'&<>=" else sign for sign in value)
                    costs.append(len(bare) + tight)
                self.assertEqual(len(cheapest(value, tight)), min(costs), value)


class Tags(unittest.TestCase):

    def test_blanks_are_one(self):
        self.assertEqual(minified("<a \n b\t\tc = d>".replace(" = ", "=")), "<a b c=d>")
        self.assertEqual(minified("<a >"), "<a>")
        self.assertEqual(minified("<a />"), "<a/>")
        self.assertEqual(minified("<a b='c'  />"), "<a b=c />")

    def test_empty_values(self):
        for text in ("<a b>", '<a b="">', "<a b=''>", "<a b >"):
            self.assertEqual(minified(text), "<a b>")
        for text in ("<a b/>", '<a b=""/>', "<a b='' />", "<a b></a>"):
            self.assertEqual(minified(text), "<a b/>")

    def test_only_the_last_value_is_tight(self):
        self.assertEqual(minified("<a b='c' d='e'/>"), "<a b=c d=e />")
        self.assertEqual(minified("<a b='c' d/>"), "<a b=c d/>")
        self.assertEqual(minified("<a b='c' d='e f'/>"), '<a b=c d="e f"/>')

    def test_not_tight(self):
        self.assertEqual(minified("<a b='/'>"), "<a b=/>")
        self.assertEqual(minified("<a b=/>"), "<a b=/>")
        self.assertEqual(minified("<a b=c/>"), "<a b=c/>")
        self.assertEqual(minified("<a b='c'>x</a>"), "<a b=c>x</a>")

    def test_tight_when_two_tags_are_one(self):
        self.assertEqual(minified("<a b='c'></a>"), "<a b=c />")
        self.assertEqual(minified("<a b=c/></a>"), "<a b=c/ />")
        self.assertEqual(minified("<a b=\"c d\"></a>"), '<a b="c d"/>')

    def test_attributes_keep_their_order(self):
        self.assertEqual(minified("<a z=1 b=2 y a=3>"), "<a z=1 b=2 y a=3>")

    def test_a_close_tag(self):
        self.assertEqual(minified("</a-1>"), "</a-1>")


if __name__ == "__main__":
    unittest.main()
