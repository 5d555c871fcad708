"""A value's cheapest form."""

import unittest

from shortmark.desk import answers
from tests.helpers import ask, counted, minified, signs, value


class Value(unittest.TestCase):

    def check(self, text, loose, tight):
        self.assertEqual(ask(value(0, text), value(1, text)), [counted(loose), counted(tight)], text)

    def test_number_by_number(self):
        # The document's example, and the same with a bare form.
        self.assertEqual(answers([7, 1, 2, 97, 34]), [5, 4, 39, 97, 34, 39])
        self.assertEqual(answers([7, 1, 1, 97, 7, 0, 1, 97]), [3, 2, 97, 32, 2, 1, 97])

    def test_no_bytes(self):
        self.check("", '""', '""')
        self.assertEqual(answers([7, 0, 0, 7, 1, 0]), [3, 2, 34, 34, 3, 2, 34, 34])

    def test_bare(self):
        for text in ("a", "abc", "/", "a/", "a;b#c", "A-9_.", "\x00\x0b\x7f\xff"):
            self.check(text, text, text + " ")

    def test_bare_with_references(self):
        self.check("&", "&amp;", "&amp; ")
        self.check("a&b&c", "a&amp;b&amp;c", "a&amp;b&amp;c ")

    def test_double(self):
        for text in ("a b", " ", "'", "a'b", "<", ">", "=", "`", "\t", "\n", "\r", "a'b'c", "<i j=k>"):
            self.check(text, f'"{text}"', f'"{text}"')

    def test_double_with_references(self):
        self.check("a & b", '"a &amp; b"', '"a &amp; b"')
        self.check("'' \"", "\"'' &#34;\"", "\"'' &#34;\"")

    def test_single(self):
        for text in ('"', 'a"', 'a"b"c', '" "', '"<>"'):
            self.check(text, f"'{text}'", f"'{text}'")

    def test_single_with_references(self):
        self.check('"&', "'\"&amp;'", "'\"&amp;'")
        self.check("\"\"'", "'\"\"&#39;'", "'\"\"&#39;'")

    def test_equal_costs_of_both_quotes(self):
        for text, form in (("'\"", "\"'&#34;\""), ("\"'", "\"&#34;'\""), ("\"'\"'", "\"&#34;'&#34;'\""),
                           ("a b", '"a b"')):
            self.check(text, form, form)

    def test_a_bare_form_never_costs_as_much(self):
        # Nothing to be quoted for: bare is one shorter even when tight. One such sign: bare is longer by one at least.
        for byte in range(256):
            bare = signs(chr(byte)) if chr(byte) not in "\t\n\r \"'<=>`&" else None
            for tight in (0, 1):
                found = ask(value(tight, [97, byte, 98]))[0]
                if bare:
                    self.assertEqual(found, [3 + tight, 97, byte, 98] + [32] * tight)
                elif byte == 38:
                    self.assertEqual(found, counted("a&amp;b" + " " * tight))
                else:
                    self.assertIn(found[1], (34, 39))

    def test_each_byte_alone(self):
        for byte in range(256):
            sign = chr(byte)
            if sign in "\t\n\r '<=>`":
                self.check(sign, f'"{sign}"', f'"{sign}"')
            elif sign == '"':
                self.check(sign, "'\"'", "'\"'")
            elif sign == "&":
                self.check(sign, "&amp;", "&amp; ")
            else:
                self.check(sign, sign, sign + " ")

    def test_all_bytes_together(self):
        inner = [part for byte in range(256) for part in signs({38: "&amp;", 34: "&#34;"}.get(byte, chr(byte)))]
        for tight in (0, 1):
            self.assertEqual(ask(value(tight, list(range(256)))), [counted([34] + inner + [34])])

    def test_bytes_are_not_read_as_a_text(self):
        self.check("&lt;", "&amp;lt;", "&amp;lt; ")
        self.check("<a b='", "\"<a b='\"", "\"<a b='\"")
        self.check("&;", "&amp;;", "&amp;; ")

    def test_as_in_a_tag(self):
        for text in ("a", "/", "a b", "'", '"', "\"'", "&", "=", "a&amp", "<>"):
            inner = "".join(f"&#{ord(letter)};" for letter in text)
            loose, tight = ["".join(map(chr, answer[1:])) for answer in ask(value(0, text), value(1, text))]
            self.assertEqual(minified(f"<x y={inner}>"), f"<x y={loose}>")
            self.assertEqual(minified(f"<x y={inner} />"), f"<x y={tight}/>")

    def test_long(self):
        for text, loose, tight in (("a" * 8192, "a" * 8192, "a" * 8192 + " "),
                                   ("&" * 8192, "&amp;" * 8192, "&amp;" * 8192 + " "),
                                   ("\"'" * 4096, '"' + "&#34;'" * 4096 + '"', '"' + "&#34;'" * 4096 + '"'),
                                   ('"' * 8192, "'" + '"' * 8192 + "'", "'" + '"' * 8192 + "'")):
            # No assertEqual: to show where lists as long as these differ takes it many minutes.
            self.assertTrue(ask(value(0, text), value(1, text)) == [counted(loose), counted(tight)], text[:9])


if __name__ == "__main__":
    unittest.main()
