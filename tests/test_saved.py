"""What saved counts."""

import unittest

from tests.helpers import ask, saved


class Saved(unittest.TestCase):

    def check(self, text, *numbers):
        self.assertEqual(ask(saved(text)), [[0] + list(numbers)], text)

    def test_runs_of_text(self):
        self.check("ab", 0, 0, 0)
        self.check("&#97;", 4, 0, 0)
        self.check("&#38;", 0, 0, 0)
        self.check("&#x26;", 1, 0, 0)
        self.check("&#60;&lt;&#060;", 3, 0, 0)
        self.check("&gt;", 3, 0, 0)
        self.check("&#97;<b>&#97;x</b>&quot;", 4 + 4 + 5, 0, 0)

    def test_runs_of_text_around_other_tokens(self):
        self.check("&#97;<!---->&#97;<calc>&#97;</calc>&#97;", 12, 0, 0)

    def test_tags(self):
        self.check("<a  b='c'>", 0, 3, 0)
        self.check("<a b=''>", 0, 3, 0)
        self.check("<a />", 0, 1, 0)
        self.check("<a b=c />", 0, 0, 0)
        self.check("<a b='c'/>", 0, 1, 0)
        self.check("<a b=\"c d\" >x</a>", 0, 1, 0)
        self.check("<a b='&#97;&apos;'>", 0, 9, 0)

    def test_a_tag_behind_text_and_a_tag_behind_raw_text(self):
        self.check("x<a >y<a >", 0, 2, 0)
        self.check("<calc >a</calc><a ><!--b--><a >", 0, 3, 0)

    def test_joining(self):
        self.check("<b></b>", 0, 0, 3)
        self.check("<long-name></long-name>", 0, 0, 11)
        self.check("<b/>", 0, 0, 0)
        self.check("<b></b><b></b>", 0, 0, 6)
        self.check("<calc></calc>", 0, 0, 6)

    def test_joining_makes_a_value_tight(self):
        self.check("<b c=d></b>", 0, 0, 2)
        self.check("<b c='d'></b>", 0, 2, 2)
        self.check("<b c=\"d e\"></b>", 0, 0, 3)

    def test_comments_and_raw_text_save_nothing(self):
        self.check("<!-- &#97; --><verb> &#97; <b  ></verb>", 0, 0, 0)

    def test_all_at_once(self):
        self.check("&#97;<a  b='c'></a>&lt;", 4, 3, 2)


if __name__ == "__main__":
    unittest.main()
