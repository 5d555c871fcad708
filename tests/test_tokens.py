"""The tokens of a text: kinds, places, and what they hold."""

import unittest

from shortmark.normal import normal_tokens
from shortmark.reader import ENDED, FAULT
from shortmark.reading import read_text
from tests.helpers import signs

TEXT = "x&#97;<a b=c d>&lt;</a><!--e--><i/><calc>1<2</calc><verb></verb>z"


class Tokens(unittest.TestCase):

    def test_kinds_and_places(self):
        reader = read_text(signs(TEXT))
        self.assertEqual(reader.mode, ENDED)
        found = [(token.kind, TEXT[token.place:token.stop]) for token in reader.tokens]
        self.assertEqual(found, [
            (0, "x&#97;"), (1, "<a b=c d>"), (0, "&lt;"), (2, "</a>"), (3, "<!--e-->"), (1, "<i/>"), (1, "<calc>"),
            (4, "1<2"), (2, "</calc>"), (1, "<verb>"), (2, "</verb>"), (0, "z"),
        ])

    def test_normal_tokens(self):
        tokens = read_text(signs(TEXT)).tokens
        normal = normal_tokens(tokens)
        self.assertEqual([token.kind for token in normal], [0, 1, 0, 2, 3, 1, 1, 4, 2, 1, 0])
        self.assertEqual([token.ended for token in normal if token.kind == 1], [0, 1, 0, 1])
        self.assertEqual(normal[9].place, tokens[9].place)
        self.assertEqual(len(tokens), 12)

    def test_what_they_hold(self):
        tokens = read_text(signs(TEXT)).tokens
        self.assertEqual(tokens[0].signs, signs("xa"))
        self.assertEqual(tokens[1].name, signs("a"))
        self.assertEqual(tokens[1].attributes, [(signs("b"), signs("c")), (signs("d"), [])])
        self.assertEqual(tokens[3].name, signs("a"))
        self.assertEqual(tokens[4].signs, signs("e"))
        self.assertEqual(tokens[7].signs, signs("1<2"))

    def test_a_faulty_reader_keeps_what_it_had(self):
        reader = read_text(signs("x<a b='c' d=ef&lt!"))
        self.assertEqual((reader.mode, reader.fault_kind, reader.count), (FAULT, 4, 17))
        self.assertEqual(len(reader.tokens), 1)
        self.assertEqual(reader.tag_name, signs("a"))
        self.assertEqual(reader.attributes, {(98,): signs("c")})
        self.assertEqual(reader.attribute_name, signs("d"))
        self.assertEqual(reader.body, signs("lt"))
        self.assertEqual(reader.run, signs("ef"))

    def test_a_sign_that_cannot_be_taken_changes_nothing(self):
        for text, name, run in (("<a b=c'", "b", "c"), ("<a b,", "b", ""), ("<a b=,`", "b", ",")):
            reader = read_text(signs(text))
            self.assertEqual((reader.mode, reader.fault_kind, reader.count), (FAULT, 1, len(text) - 1))
            self.assertEqual((reader.attribute_name, reader.run), (signs(name), signs(run)))
            self.assertEqual((reader.tag_name, reader.attributes), (signs("a"), {}))

    def test_what_is_emptied(self):
        reader = read_text(signs("<a b=c d>&lt;</a><calc e>x</calc><!--f-->z"))
        self.assertEqual(reader.mode, ENDED)
        self.assertEqual([reader.tag_name, reader.attribute_name, reader.body, reader.run], [[], [], [], []])
        self.assertEqual(reader.attributes, {})


if __name__ == "__main__":
    unittest.main()
