"""What holds of every text, tried on many that are made up, the same ones each time."""

import random
import unittest

from tests.helpers import ask, counted, end, fault, feed, laid, minify, same, saved, signs, tokens, wrote
from tests.plain import normal_tokens_of, plainly_laid, plainly_minified

SCRAPS = [
    "<a>", "</a>", "<b>", "</b>", "<b/>", "<a", ">", "/>", "/", " ", "\n", " c", " d=", "='", "'", '"', '="', "=", "e",
    "&amp;", "&lt;", "&#97;", "&#x2F;", "&#039;", "&quot;", "&#256;", "&", ";", "#", "<!--", "-->", "-", "--", "<calc>",
    "</calc>", "<verb ", "</verb>", "<calc/>", "<", "</", "<!", "x", "xy z", "`", "\xff", "\x00", "A", "9", " f=g",
    " h",
]
VALUES = ["", "a", "/", "a b", "a\"b", "a'b", "'\"", "&amp;", "&#34;", "&#39;", "&lt;", "&#x20;", "=", "a&gt;b/", "\t"]


def scraps(source):
    return "".join(source.choice(SCRAPS) for step in range(source.randrange(12)))


def attribute(source, name):
    value = source.choice(VALUES)
    forms = [name]
    if "'" not in value:
        forms.append(f"{name}='{value}'")
    if '"' not in value:
        forms.append(f'{name}="{value}"')
    if value and not set(value) & set("\t '\"=<>"):
        forms.append(f"{name}={value}")
    return source.choice([" ", "  ", "\n\t"]) + source.choice(forms)


def fine_token(source):
    name = source.choice(["a", "b", "calc", "verb", "x-1"])
    tag = "<" + name + "".join(attribute(source, key) for key in source.sample("cdef", source.randrange(4)))
    inner = source.choice(["", "", "1<2", "<<", "&#97;", " "])
    whole = [tag + " />", tag + ">", tag + f"></{name}>", f"</{name}>", "<!--a--->", "text &amp; more", "&#x3c;&#65;"]
    if name in ("calc", "verb"):
        whole = [f"{tag} >{inner}</{name}>"]
    return source.choice(whole)


def fine_text(source):
    return "".join(fine_token(source) for step in range(source.randrange(8)))


def told(token):
    """The numbers of a token of the second way."""
    kind, inner = token[:2]
    if kind != 1:
        return [kind] + counted(inner)
    pairs = [number for key, value in token[2] for number in counted(key) + counted(value)]
    return [1, int(token[3])] + counted(inner) + [len(token[2])] + pairs


def many_texts():
    source = random.Random(20)
    texts = []
    for step in range(3000):
        texts.append(scraps(source))
        fine = fine_text(source)
        texts.append(fine)
        place = source.randrange(len(fine) + 1)
        texts.append(fine[:place] + source.choice(SCRAPS) + fine[place:])
        texts.append(fine[:place] + fine[place + 1:])
    return texts


class Properties(unittest.TestCase):

    def setUp(self):
        self.texts = many_texts()

    def fine_texts(self):
        for text in self.texts:
            answer = ask(minify(text))[0]
            if answer[0] == 0:
                yield text, answer[2:]

    def test_the_texts_are_of_use(self):
        many = len(list(self.fine_texts()))
        self.assertGreater(many, len(self.texts) // 4)
        self.assertGreater(len(self.texts) - many, len(self.texts) // 4)

    def test_the_same_as_by_patterns(self):
        for text in self.texts:
            answer = ask(minify(text))[0]
            other = plainly_minified(text)
            if other is None:
                self.assertEqual(answer[0], 1, text)
            else:
                self.assertEqual(answer, [0, len(other)] + signs(other), text)

    def test_laid_out_as_by_patterns(self):
        for text in self.texts:
            for width in (0, 5, 9, 12, 20, 1000):
                answer = ask(laid(width, text))[0]
                other = plainly_laid(text, width)
                if other is None:
                    self.assertEqual(answer, ask(minify(text))[0], text)
                else:
                    self.assertEqual(answer, wrote(other), (text, width))

    def test_tokens_as_by_patterns(self):
        for text in self.texts:
            answer = ask(tokens(text))[0]
            other = normal_tokens_of(text)
            if other is None:
                self.assertEqual(answer, ask(minify(text))[0], text)
            else:
                self.assertEqual(answer, [0, len(other)] + [number for token in other for number in told(token)], text)

    def test_other_writings_are_the_same(self):
        for text, written in self.fine_texts():
            spread = ask(laid(6, text))[0][2:]
            self.assertEqual(ask(same(text, written), same(spread, text), same(written, spread)), [[0, 1]] * 3, text)
            self.assertEqual(ask(laid(6, spread)), [wrote(spread)], text)
            self.assertEqual(ask(minify(spread)), [wrote(written)], text)

    def test_same_is_told_by_tokens(self):
        fine = [text for text, written in self.fine_texts()]
        alike = 0
        for first, second in zip(fine, fine[1:] + fine[:1]):
            wanted = int(normal_tokens_of(first) == normal_tokens_of(second))
            alike += wanted
            self.assertEqual(ask(same(first, second)), [[0, wanted]], (first, second))
        self.assertGreater(alike, 100)
        self.assertGreater(len(fine) - alike, 100)

    def test_minified_again_is_the_same(self):
        for text, written in self.fine_texts():
            self.assertEqual(ask(minify(written)), [[0, len(written)] + written], text)
            self.assertEqual(ask(saved(written)), [[0, 0, 0, 0]], text)

    def test_all_that_is_saved_is_told(self):
        for text, written in self.fine_texts():
            numbers = ask(saved(text))[0]
            self.assertEqual(numbers[0], 0)
            self.assertEqual(sum(numbers), len(text) - len(written), text)
            self.assertGreaterEqual(min(numbers), 0, text)

    def test_in_pieces_as_at_once(self):
        source = random.Random(7)
        for text in self.texts:
            cuts = sorted(source.randrange(len(text) + 1) for step in range(3))
            pieces = [text[start:stop] for start, stop in zip([0] + cuts, cuts + [len(text)])]
            found = ask(*[feed(piece) for piece in pieces], end())
            whole = ask(minify(text))[0]
            if whole[0] == 0:
                self.assertEqual([sign for answer in found for sign in answer[2:]], whole[2:], text)
            else:
                self.assertIn(whole, found, text)

    def test_a_faults_place_is_where_the_text_goes_wrong(self):
        for text in self.texts:
            answer = ask(minify(text))[0]
            if answer[0] == 0:
                continue
            self.assertEqual(ask(saved(text)), [answer], text)
            kind, place = answer[1:]
            if kind == 7:
                self.assertEqual(place, len(text), text)
                continue
            self.assertEqual(ask(minify(text[:place + 1])), [answer], text)
            before = ask(minify(text[:place]))[0]
            self.assertTrue(before[0] == 0 or before == fault(7, place), text)


if __name__ == "__main__":
    unittest.main()
