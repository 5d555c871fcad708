"""Refusals: -1, -2, -3 and -4, which of several, and that nothing has changed."""

import unittest

from tests.helpers import ask, begin, end, fault, feed, minify, saved, wrote

BYTES_CALLS = (feed, minify, saved)
FULL = [97] * 8192
OVER = [97] * 8193


class Bytes(unittest.TestCase):

    def test_numbers_that_are_no_bytes(self):
        for number in (-1, 256, -2147483648, 2147483647, 65535, 1000):
            for row in ([number], [97, number], [number, 97], [60, 49, number]):
                for call in BYTES_CALLS:
                    self.assertEqual(ask(call(row)), [[-1]], row)

    def test_bytes(self):
        self.assertEqual(ask(minify([0, 255]), saved([0, 255]), feed([0, 255])),
                         [wrote([0, 255]), [0, 0, 0, 0], wrote([])])

    def test_how_many(self):
        self.assertEqual(ask(minify(FULL)), [wrote(FULL)])
        self.assertEqual(ask(saved(FULL)), [[0, 0, 0, 0]])
        self.assertEqual(ask(feed(FULL), end()), [wrote(""), wrote(FULL)])
        for call in BYTES_CALLS:
            self.assertEqual(ask(call(OVER)), [[-2]])
            self.assertEqual(ask(call([97] * 10000)), [[-2]])

    def test_no_bytes_comes_before_too_many(self):
        for call in BYTES_CALLS:
            self.assertEqual(ask(call(OVER + [256])), [[-1]])
            self.assertEqual(ask(call([-1] + OVER)), [[-1]])

    def test_refusals_come_before_faults(self):
        for call in BYTES_CALLS:
            self.assertEqual(ask(call([60, 49] + OVER)), [[-2]])


class Over(unittest.TestCase):

    def test_after_the_end(self):
        self.assertEqual(ask(end(), feed("a"), feed(""), end()), [wrote(""), [-4], [-4], [-4]])

    def test_after_a_fault_in_feed(self):
        self.assertEqual(ask(feed("<1"), feed("a"), feed(""), end()), [fault(1, 1), [-4], [-4], [-4]])

    def test_after_a_fault_at_the_end(self):
        self.assertEqual(ask(feed("<"), end(), feed("a"), end()), [wrote(""), fault(7, 1), [-4], [-4]])

    def test_stays_so_until_begin(self):
        self.assertEqual(ask(end(), minify("a"), feed("a"), begin(), feed("a"), end()),
                         [wrote(""), wrote("a"), [-4], [0], wrote(""), wrote("a")])


class Room(unittest.TestCase):

    def test_16384_bytes_in_all(self):
        self.assertEqual(ask(feed(FULL), feed(FULL), feed(""), end()),
                         [wrote(""), wrote(""), wrote(""), wrote(FULL + FULL)])

    def test_16385_bytes_in_all(self):
        self.assertEqual(ask(feed(FULL), feed(FULL), feed("a"), end()),
                         [wrote(""), wrote(""), [-3], wrote(FULL + FULL)])
        self.assertEqual(ask(feed(FULL), feed("b"), feed(FULL)), [wrote(""), wrote(""), [-3]])

    def test_bytes_count_not_what_they_stand_for(self):
        row = "&#97;" * 1638 + "ab"
        self.assertEqual(len(row), 8192)
        self.assertEqual(ask(feed(row), feed(row), feed("a")), [wrote(""), wrote(""), [-3]])

    def test_less_may_still_come_behind_a_refusal(self):
        self.assertEqual(ask(feed(FULL), feed("b"), feed(FULL), feed(FULL[1:]), end()),
                         [wrote(""), wrote(""), [-3], wrote(""), wrote(FULL + [98] + FULL[1:])])

    def test_a_fault_at_the_last_place(self):
        self.assertEqual(ask(feed(FULL), feed(FULL[2:] + [60, 49])), [wrote(""), fault(1, 16383)])
        self.assertEqual(ask(feed(FULL), feed(FULL[1:] + [60]), end()), [wrote(""), wrote(FULL + FULL[1:]),
                                                                      fault(7, 16384)])

    def test_begin_makes_room(self):
        self.assertEqual(ask(feed(FULL), feed(FULL), begin(), feed(FULL), end()),
                         [wrote(""), wrote(""), [0], wrote(""), wrote(FULL)])


class Several(unittest.TestCase):

    def test_of_feed(self):
        for first in (end(), feed("<1")):
            self.assertEqual(ask(first, feed([256]))[1], [-1])
            self.assertEqual(ask(first, feed([256] + OVER))[1], [-1])
            self.assertEqual(ask(first, feed(OVER))[1], [-2])
        self.assertEqual(ask(feed(FULL), feed(FULL), feed([256]))[2], [-1])
        self.assertEqual(ask(feed(FULL), feed(FULL), feed(OVER))[2], [-2])

    def test_over_comes_before_no_room(self):
        self.assertEqual(ask(feed(FULL), feed(FULL), end(), feed("a"))[3], [-4])
        self.assertEqual(ask(feed(FULL), feed(FULL[1:] + [60]), end(), feed("ab"))[3], [-4])


class Unchanged(unittest.TestCase):

    def test_a_refused_call_leaves_the_object_as_it_was(self):
        refused = [feed([256]), feed([60, 98, 62, -1]), feed(OVER), minify([256]), saved(OVER)]
        for start, rest, behind in (("<b>", "</b>x", "<b/>x"), ("a&am", "p;", "a&amp;"), ("<a b='c", "'>", "<a b=c>"),
                                    ("<calc>a</ca", "lc>", "<calc>a</calc>"), ("<!--a-", "->", "<!--a-->")):
            found = ask(feed(start), *refused, feed(rest), end())
            self.assertEqual(found[1:6], [[-1], [-1], [-2], [-1], [-2]])
            self.assertEqual(found[0][2:] + found[6][2:] + found[7][2:], wrote(behind)[2:])

    def test_a_refused_end(self):
        self.assertEqual(ask(end(), end(), begin(), end()), [wrote(""), [-4], [0], wrote("")])


if __name__ == "__main__":
    unittest.main()
