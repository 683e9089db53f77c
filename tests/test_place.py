"""place: the bar in which a time lies, and how long behind its beginning."""

import unittest
from fractions import Fraction

from tests.helper import bars_of, place, read, told

PLAIN = "time 3/4 voice a c4/2. | c4/2. | c4/2. | end"
SHORT = "time 4/4 voice a short {3:2 c4/4 c4/4 } | c4/1 | short c4/4.. | c4/1 | short {5:4 c4/16 } | end"
LONG = "time 32/1 voice a" + (" c4/1" * 32 + " |") * 6 + " end"


class Place(unittest.TestCase):
    def assert_place(self, text, upper, lower, *expected):
        self.assertEqual(told(read(text), place(upper, lower)), [[0], list(expected)], (upper, lower))

    def assert_in(self, text, upper, lower, bar, behind_upper, behind_lower):
        self.assert_place(text, upper, lower, bar, 2, behind_upper, behind_lower)

    def test_the_beginning(self):
        for text in (PLAIN, SHORT, LONG):
            self.assert_in(text, 0, 1, 0, 0, 1)

    def test_within_bars(self):
        self.assert_in(PLAIN, 1, 4, 0, 1, 4)
        self.assert_in(PLAIN, 1, 1, 1, 1, 4)
        self.assert_in(PLAIN, 5, 4, 1, 1, 2)
        self.assert_in(PLAIN, 2, 1, 2, 1, 2)

    def test_a_bars_beginning_and_end(self):
        self.assert_in(PLAIN, 3, 4, 1, 0, 1)
        self.assert_in(PLAIN, 3, 2, 2, 0, 1)

    def test_just_before_a_bars_end(self):
        self.assert_in(PLAIN, 749999, 1000000, 0, 749999, 1000000)
        self.assert_in(PLAIN, 749998, 999999, 0, 749998, 999999)
        self.assert_in(PLAIN, 750001, 1000000, 1, 1, 1000000)
        self.assert_in(PLAIN, 767, 512, 1, 383, 512)

    def test_the_last_bars_end(self):
        self.assert_place(PLAIN, 9, 4, -4)
        self.assert_place(PLAIN, 18, 8, -4)
        self.assert_place(PLAIN, 900000, 400000, -4)
        self.assert_in(PLAIN, 899999, 400000, 2, 299999, 400000)
        self.assert_place(PLAIN, 900001, 400000, -4)

    def test_behind_the_last_bars_end(self):
        self.assert_place(PLAIN, 5, 2, -4)
        self.assert_place(PLAIN, 3, 1, -4)
        self.assert_place(PLAIN, 1000000, 1, -4)

    def test_one_bar(self):
        text = "time 1/32 voice a c4/32 | end"
        self.assert_in(text, 0, 1, 0, 0, 1)
        self.assert_in(text, 1, 33, 0, 1, 33)
        self.assert_place(text, 1, 32, -4)
        self.assert_place(text, 1, 31, -4)

    def test_times_that_are_not_in_lowest_terms(self):
        self.assert_in(PLAIN, 0, 4, 0, 0, 1)
        self.assert_in(PLAIN, 0, 999999, 0, 0, 1)
        self.assert_in(PLAIN, 2, 8, 0, 1, 4)
        self.assert_in(PLAIN, 6, 8, 1, 0, 1)
        self.assert_in(PLAIN, 7, 7, 1, 1, 4)
        self.assert_in(PLAIN, 300000, 200000, 2, 0, 1)
        self.assert_in(PLAIN, 1000000, 1000000, 1, 1, 4)

    def test_answers_in_lowest_terms(self):
        self.assert_in(PLAIN, 11, 12, 1, 1, 6)
        self.assert_in(PLAIN, 17, 20, 1, 1, 10)
        self.assert_in("time 2/1 voice a c4/1 c4/1 | c4/1 c4/1 | end", 3, 1, 1, 1, 1)
        self.assert_in("time 4/1 voice a c4/1 c4/1 c4/1 c4/1 | end", 6, 2, 0, 3, 1)

    def test_within_short_bars_and_behind_them(self):
        self.assert_in(SHORT, 1, 6, 0, 1, 6)
        self.assert_in(SHORT, 1, 3, 1, 0, 1)
        self.assert_in(SHORT, 1, 2, 1, 1, 6)
        self.assert_in(SHORT, 4, 3, 2, 0, 1)
        self.assert_in(SHORT, 3, 2, 2, 1, 6)
        self.assert_in(SHORT, 85, 48, 3, 0, 1)
        self.assert_in(SHORT, 2, 1, 3, 11, 48)
        self.assert_in(SHORT, 133, 48, 4, 0, 1)
        self.assert_in(SHORT, 134, 48, 4, 1, 48)
        self.assert_place(SHORT, 677, 240, -4)
        self.assert_in(SHORT, 676, 240, 4, 11, 240)

    def test_lower_numbers_that_no_length_has(self):
        self.assert_in(PLAIN, 1, 11, 0, 1, 11)
        self.assert_in(PLAIN, 9, 11, 1, 3, 44)
        self.assert_in(SHORT, 4, 13 * 17, 0, 4, 221)
        self.assert_in(SHORT, 999983, 999979, 1, 1999970, 2999937)

    def test_large_lower_numbers_behind_small_parts(self):
        text = "time 1/1 voice a short {9:2 {7:3 {5:4 c4/64.. } } } | short {8:3 {8:3 {8:3 c4/64 } } } | c4/1 | end"
        begin = Fraction(1, 480) + Fraction(27, 512) * Fraction(1, 64)
        behind = Fraction(500000, 999983) - begin
        self.assert_in(text, 500000, 999983, 2, behind.numerator, behind.denominator)
        self.assert_in(text, 1, 480, 1, 0, 1)

    def test_several_voices(self):
        text = "time 2/4 voice a c4/2 | short c4/4 | end voice b c4/4 r/4 | short {3:2 c4/8 c4/8 r/8 } | end"
        self.assert_in(text, 1, 2, 1, 0, 1)
        self.assert_in(text, 5, 8, 1, 1, 8)
        self.assert_place(text, 3, 4, -4)

    def test_long_bars(self):
        self.assert_in(LONG, 191, 1, 5, 31, 1)
        self.assert_in(LONG, 32, 1, 1, 0, 1)
        self.assert_place(LONG, 192, 1, -4)

    def test_every_time_of_a_grid(self):
        for text in (PLAIN, SHORT):
            bars = [(Fraction(*row[:2]), Fraction(*row[2:])) for row in bars_of(text)]
            for lower in (1, 2, 5, 7, 12, 48, 60):
                for upper in range(3 * lower):
                    self.assert_place(text, upper, lower, *reckoned(bars, Fraction(upper, lower)))


class Refusals(unittest.TestCase):
    def assert_refused(self, refusal, upper, lower, text=PLAIN):
        self.assertEqual(told(read(text), place(upper, lower)), [[0], [refusal]], (upper, lower))

    def test_the_lower_number_is_0(self):
        for upper in (0, 1, 2, 1000000, 1000001, 4294967295):
            self.assert_refused(-2, upper, 0)

    def test_1000000_is_not_too_much(self):
        self.assertEqual(told(read(PLAIN), place(1000000, 1000000)), [[0], [1, 2, 1, 4]])
        self.assertEqual(told(read(PLAIN), place(1, 1000000)), [[0], [0, 2, 1, 1000000]])
        self.assertEqual(told(read(PLAIN), place(1000000, 999999)), [[0], [1, 2, 1000003, 3999996]])
        self.assert_refused(-4, 1000000, 1)

    def test_above_1000000(self):
        self.assert_refused(-2, 1000001, 1000000)
        self.assert_refused(-2, 1000000, 1000001)
        self.assert_refused(-2, 1000001, 1000001)
        self.assert_refused(-2, 0, 1000001)
        self.assert_refused(-2, 1, 1000001)

    def test_the_largest_numbers(self):
        self.assert_refused(-2, 4294967295, 4294967295)
        self.assert_refused(-2, 0, 4294967295)
        self.assert_refused(-2, 4294967295, 1)

    def test_too_large_a_number_is_told_ahead_of_a_time_behind_the_end(self):
        self.assert_refused(-2, 1000001, 1)
        self.assert_refused(-2, 4294967295, 1000001)
        self.assert_refused(-2, 1000001, 400000)

    def test_no_score(self):
        for upper, lower in ((0, 1), (0, 0), (1, 0), (1000001, 1), (1, 1000001), (1000000, 1), (4294967295, 0)):
            self.assertEqual(told(place(upper, lower)), [[-1]])

    def test_a_refusal_changes_nothing(self):
        whole = told(read(PLAIN), place(1, 1), place(1, 0), place(1, 1), place(9, 4), place(1, 1))
        self.assertEqual(whole, [[0], [1, 2, 1, 4], [-2], [1, 2, 1, 4], [-4], [1, 2, 1, 4]])


def reckoned(bars, time):
    for number, (begin, length) in enumerate(bars):
        if begin <= time < begin + length:
            behind = time - begin
            return number, 2, behind.numerator, behind.denominator
    return (-4,)
