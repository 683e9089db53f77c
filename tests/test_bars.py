"""bars: when each begins and how long it is."""

import unittest

from tests.helper import BARS, bars_of, read, told


class Bars(unittest.TestCase):
    def assert_bars(self, text, *expected):
        self.assertEqual(bars_of(text), [list(row) for row in expected])

    def test_one_bar(self):
        self.assert_bars("time 3/4 voice a c4/2. | end", (0, 1, 3, 4))

    def test_several_bars(self):
        self.assert_bars("time 3/8 voice a c4/4. | r/4. | [ c4 e4 ]/4. | c4/4. | end",
                         (0, 1, 3, 8), (3, 8, 3, 8), (3, 4, 3, 8), (9, 8, 3, 8))

    def test_metres_in_lowest_terms(self):
        self.assert_bars("time 4/4 voice a c4/1 | c4/1 | end", (0, 1, 1, 1), (1, 1, 1, 1))
        self.assert_bars("time 6/8 voice a c4/2. | c4/2. | end", (0, 1, 3, 4), (3, 4, 3, 4))
        self.assert_bars("time 32/32 voice a c4/1 | c4/1 | end", (0, 1, 1, 1), (1, 1, 1, 1))
        self.assert_bars("time 2/2 voice a c4/1 | end", (0, 1, 1, 1))
        self.assert_bars("time 2/1 voice a c4/1 c4/1 | c4/1 r/1 | end", (0, 1, 2, 1), (2, 1, 2, 1))
        self.assert_bars("time 12/8 voice a c4/1. | end", (0, 1, 3, 2))
        self.assert_bars("time 1/32 voice a c4/32 | c4/32 | end", (0, 1, 1, 32), (1, 32, 1, 32))
        self.assert_bars("time 32/1 voice a" + " r/1" * 32 + " | short r/1 | end", (0, 1, 32, 1), (32, 1, 1, 1))

    def test_short_at_the_beginning(self):
        self.assert_bars("time 4/4 voice a short c4/4 | c4/1 | c4/1 | end",
                         (0, 1, 1, 4), (1, 4, 1, 1), (5, 4, 1, 1))

    def test_short_in_the_middle(self):
        self.assert_bars("time 4/4 voice a c4/1 | short c4/4 r/4 | c4/1 | end",
                         (0, 1, 1, 1), (1, 1, 1, 2), (3, 2, 1, 1))

    def test_short_at_the_end(self):
        self.assert_bars("time 4/4 voice a c4/1 | c4/1 | short c4/2. | end",
                         (0, 1, 1, 1), (1, 1, 1, 1), (2, 1, 3, 4))

    def test_all_short(self):
        self.assert_bars("time 4/4 voice a short c4/64 | end", (0, 1, 1, 64))
        self.assert_bars("time 4/4 voice a short c4/64 | short r/2. | short c4/64 | end",
                         (0, 1, 1, 64), (1, 64, 3, 4), (49, 64, 1, 64))

    def test_behind_short_bars_with_dots(self):
        self.assert_bars("time 2/4 voice a short c4/4.. | c4/2 | short c4/64. | c4/2 | end",
                         (0, 1, 7, 16), (7, 16, 1, 2), (15, 16, 3, 128), (123, 128, 1, 2))

    def test_behind_short_bars_with_tuplets(self):
        self.assert_bars("time 2/4 voice a short {3:2 c4/4 c4/4 } | c4/2 | short {5:4 r/8 [ c4 e4 ]/8 } | c4/2 | end",
                         (0, 1, 1, 3), (1, 3, 1, 2), (5, 6, 1, 5), (31, 30, 1, 2))
        self.assert_bars("time 2/4 voice a short {9:2 {7:3 {5:4 c4/64.. } } } | c4/2 | end",
                         (0, 1, 1, 480), (1, 480, 1, 2))

    def test_full_bars_with_tuplets(self):
        self.assert_bars("time 2/4 voice a {3:2 c4/4 {7:4 c4/16 c4/8 c4/4 } r/4 } | c4/2 | end",
                         (0, 1, 1, 2), (1, 2, 1, 2))

    def test_the_smallest_parts(self):
        self.assert_bars("time 1/1 voice a short {8:3 {8:3 {8:3 c4/64.. } } } | short {9:2 {9:2 {9:2 c4/64 } } } |"
                         " c4/1 | end",
                         (0, 1, 189, 131072), (189, 131072, 1, 5832),
                         (189 * 729 + 16384, 131072 * 729, 1, 1))

    def test_ties_make_no_difference(self):
        self.assert_bars("time 1/4 voice a c4/4~ | c4/8~ c4/8~ | c4/4 | end",
                         (0, 1, 1, 4), (1, 4, 1, 4), (1, 2, 1, 4))

    def test_each_bar_once_for_all_voices(self):
        self.assert_bars("time 2/4 voice a c4/2 | short c4/4 | c4/2 | end"
                         " voice b c4/4 r/4 | short {3:2 c4/8 c4/8 r/8 } | r/2 | end"
                         " voice c r/2 | short r/4 | {3:2 c4/4 c4/4 c4/4 } | end"
                         " voice d [ c4 e4 ]/2 | short c4/8 c4/8 | r/2 | end",
                         (0, 1, 1, 2), (1, 2, 1, 4), (3, 4, 1, 2))

    def test_many_bars(self):
        self.assert_bars("time 1/4 voice a " + "r/4 | " * 240 + "end",
                         *[(*in_quarters(number), 1, 4) for number in range(240)])

    def test_how_it_is_given_back(self):
        self.assertEqual(told(read("time 2/4 voice a short c4/4 | c4/2 | end voice b short r/4 | r/2 | end"), BARS),
                         [[0], [2, 4, 0, 1, 1, 4, 4, 1, 4, 1, 2]])

    def test_no_score(self):
        self.assertEqual(told(BARS), [[-1]])


def in_quarters(number):
    for lower in (1, 2):
        if number * lower % 4 == 0:
            return number * lower // 4, lower
    return number, 4
