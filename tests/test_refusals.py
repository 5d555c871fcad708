"""Refusals: -1 to -5, which of several, and that nothing has changed."""

import unittest

from tests.helpers import (
    ask, begin, counted, end, fault, feed, laid, minify, same, saved, tokens, value, wrote,
)


def laid_at_9(row):
    return laid(9, row)


def loose_value(row):
    return value(0, row)


def tight_value(row):
    return value(1, row)


def same_first(row):
    return same(row, "<a>")


def same_second(row):
    return same("<a>", row)


BYTES_CALLS = (feed, minify, saved, laid_at_9, loose_value, tight_value, same_first, same_second, tokens)
SMALLEST = -2147483648
LARGEST = 2147483647
FULL = [97] * 8192
OVER = [97] * 8193


class Bytes(unittest.TestCase):

    def test_numbers_that_are_no_bytes(self):
        for number in (-1, 256, -2147483648, 2147483647, 65535, 1000):
            for row in ([number], [97, number], [number, 97], [60, 49, number]):
                for call in BYTES_CALLS:
                    self.assertEqual(ask(call(row)), [[-1]], row)

    def test_bytes(self):
        self.assertEqual(ask(minify([0, 255]), saved([0, 255]), feed([0, 255])),
                         [wrote([0, 255]), [0, 0, 0, 0], wrote([])])
        self.assertEqual(ask(laid(0, [0, 255]), same([0, 255], [0, 255]), value(0, [0, 255]), tokens([0, 255])),
                         [wrote([0, 255]), [0, 1], counted([0, 255]), [0, 1, 0, 2, 0, 255]])

    def test_how_many(self):
        self.assertEqual(ask(minify(FULL)), [wrote(FULL)])
        self.assertEqual(ask(saved(FULL)), [[0, 0, 0, 0]])
        self.assertEqual(ask(feed(FULL), end()), [wrote(""), wrote(FULL)])
        self.assertEqual(ask(laid(0, FULL)), [wrote(FULL)])
        self.assertEqual(ask(same(FULL, FULL)), [[0, 1]])
        self.assertEqual(ask(value(0, FULL)), [counted(FULL)])
        self.assertEqual(ask(tokens(FULL)), [[0, 1, 0] + counted(FULL)])
        for call in BYTES_CALLS:
            self.assertEqual(ask(call(OVER)), [[-2]])
            self.assertEqual(ask(call([97] * 10000)), [[-2]])

    def test_no_bytes_comes_before_too_many(self):
        for call in BYTES_CALLS:
            self.assertEqual(ask(call(OVER + [256])), [[-1]])
            self.assertEqual(ask(call([-1] + OVER)), [[-1]])

    def test_refusals_come_before_faults(self):
        for call in BYTES_CALLS:
            self.assertEqual(ask(call([60, 49] + OVER)), [[-2]])


class Settings(unittest.TestCase):

    def test_a_width_below_0(self):
        for width in (-1, -2, SMALLEST):
            for row in ("", "<a b=c>", "<1"):
                self.assertEqual(ask(laid(width, row)), [[-5]])

    def test_widths(self):
        for width in (0, 1, 2, 8192, LARGEST):
            self.assertEqual(ask(laid(width, "a")), [wrote("a")])

    def test_tight_is_neither_0_nor_1(self):
        for tight in (-1, 2, 3, 256, SMALLEST, LARGEST):
            for row in ("", "a", "<1"):
                self.assertEqual(ask(value(tight, row)), [[-5]])

    def test_come_before_those_of_bytes(self):
        for row in ([256], [-1], OVER, OVER + [256]):
            self.assertEqual(ask(laid(-1, row)), [[-5]])
            self.assertEqual(ask(value(2, row)), [[-5]])
            self.assertEqual(ask(value(-1, row)), [[-5]])

    def test_the_next_call_begins_behind_the_bytes(self):
        self.assertEqual(ask(laid(-1, [3, 0, 2]), minify("a"), value(2, [3, 0]), minify("b"), value(0, [-7, 7])),
                         [[-5], wrote("a"), [-5], wrote("b"), [-1]])


class TwoTexts(unittest.TestCase):

    def test_those_of_the_first_come_first(self):
        self.assertEqual(ask(same([256], OVER)), [[-1]])
        self.assertEqual(ask(same(OVER, [256])), [[-2]])
        self.assertEqual(ask(same([256], [256])), [[-1]])
        self.assertEqual(ask(same(OVER, OVER)), [[-2]])
        self.assertEqual(ask(same(OVER + [256], OVER)), [[-1]])
        self.assertEqual(ask(same(OVER, OVER + [-1])), [[-2]])

    def test_all_come_before_all_faults(self):
        for row, number in (([256], -1), (OVER, -2), ([60, 49, -1], -1), ([60, 49] + OVER, -2)):
            for faulty in ("<1", "<", "&;"):
                self.assertEqual(ask(same(faulty, row)), [[number]])
                self.assertEqual(ask(same(row, faulty)), [[number]])

    def test_each_may_have_8192(self):
        self.assertEqual(ask(same(FULL, FULL[1:] + [98])), [[0, 0]])
        self.assertEqual(ask(same(FULL, OVER)), [[-2]])
        self.assertEqual(ask(same(OVER, FULL)), [[-2]])

    def test_the_next_call_begins_behind_both(self):
        self.assertEqual(ask(same([256, 3], [8, 0]), minify("a"), same([3], [-1, 0]), minify("b")),
                         [[-1], wrote("a"), [-1], wrote("b")])


class Over(unittest.TestCase):

    def test_after_the_end(self):
        self.assertEqual(ask(end(), feed("a"), feed(""), end()), [wrote(""), [-4], [-4], [-4]])

    def test_after_a_fault_in_feed(self):
        self.assertEqual(ask(feed("<1"), feed("a"), feed(""), end()), [fault(1, 1), [-4], [-4], [-4]])

    def test_after_a_fault_at_the_end(self):
        self.assertEqual(ask(feed("<"), end(), feed("a"), end()), [wrote(""), fault(7, 1), [-4], [-4]])

    def test_stays_so_until_begin(self):
        self.assertEqual(ask(end(), minify("a"), feed("a"), begin(), feed("a"), end()),
                         [wrote(""), wrote("a"), [-4], [0], wrote(""), wrote("a")])


class Room(unittest.TestCase):

    def test_16384_bytes_in_all(self):
        self.assertEqual(ask(feed(FULL), feed(FULL), feed(""), end()),
                         [wrote(""), wrote(""), wrote(""), wrote(FULL + FULL)])

    def test_16385_bytes_in_all(self):
        self.assertEqual(ask(feed(FULL), feed(FULL), feed("a"), end()),
                         [wrote(""), wrote(""), [-3], wrote(FULL + FULL)])
        self.assertEqual(ask(feed(FULL), feed("b"), feed(FULL)), [wrote(""), wrote(""), [-3]])

    def test_bytes_count_not_what_they_stand_for(self):
        row = "&#97;" * 1638 + "ab"
        self.assertEqual(len(row), 8192)
        self.assertEqual(ask(feed(row), feed(row), feed("a")), [wrote(""), wrote(""), [-3]])

    def test_less_may_still_come_behind_a_refusal(self):
        self.assertEqual(ask(feed(FULL), feed("b"), feed(FULL), feed(FULL[1:]), end()),
                         [wrote(""), wrote(""), [-3], wrote(""), wrote(FULL + [98] + FULL[1:])])

    def test_a_fault_at_the_last_place(self):
        self.assertEqual(ask(feed(FULL), feed(FULL[2:] + [60, 49])), [wrote(""), fault(1, 16383)])
        self.assertEqual(ask(feed(FULL), feed(FULL[1:] + [60]), end()), [wrote(""), wrote(FULL + FULL[1:]),
                                                                      fault(7, 16384)])

    def test_begin_makes_room(self):
        self.assertEqual(ask(feed(FULL), feed(FULL), begin(), feed(FULL), end()),
                         [wrote(""), wrote(""), [0], wrote(""), wrote(FULL)])


class Several(unittest.TestCase):

    def test_of_feed(self):
        for first in (end(), feed("<1")):
            self.assertEqual(ask(first, feed([256]))[1], [-1])
            self.assertEqual(ask(first, feed([256] + OVER))[1], [-1])
            self.assertEqual(ask(first, feed(OVER))[1], [-2])
        self.assertEqual(ask(feed(FULL), feed(FULL), feed([256]))[2], [-1])
        self.assertEqual(ask(feed(FULL), feed(FULL), feed(OVER))[2], [-2])

    def test_over_comes_before_no_room(self):
        self.assertEqual(ask(feed(FULL), feed(FULL), end(), feed("a"))[3], [-4])
        self.assertEqual(ask(feed(FULL), feed(FULL[1:] + [60]), end(), feed("ab"))[3], [-4])


class Unchanged(unittest.TestCase):

    def test_a_refused_call_leaves_the_object_as_it_was(self):
        refused = [feed([256]), feed([60, 98, 62, -1]), minify([256]), saved([256]), laid(-1, "<b>"), laid(9, [256]),
                   same("<b>", [256]), value(2, "<b>"), value(1, [-1]), tokens([60, 98, 62, 256]), feed(OVER)]
        for start, rest, behind in (("<b>", "</b>x", "<b/>x"), ("a&am", "p;", "a&amp;"), ("<a b='c", "'>", "<a b=c>"),
                                    ("<calc>a</ca", "lc>", "<calc>a</calc>"), ("<!--a-", "->", "<!--a-->")):
            found = ask(feed(start), *refused, feed(rest), end())
            self.assertEqual(found[1:12], [[-1]] * 4 + [[-5], [-1], [-1], [-5], [-1], [-1], [-2]])
            self.assertEqual(found[0][2:] + found[12][2:] + found[13][2:], wrote(behind)[2:])

    def test_a_refused_end(self):
        self.assertEqual(ask(end(), end(), begin(), end()), [wrote(""), [-4], [0], wrote("")])


if __name__ == "__main__":
    unittest.main()
