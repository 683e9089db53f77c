"""counts: bars; notes, chords and rests; notes and chords."""

import unittest

from tests.helper import COUNTS, read, rows, told


class Counts(unittest.TestCase):
    def assert_counts(self, text, *expected):
        answer = told(read(text), COUNTS)
        self.assertEqual(answer[0], [0])
        self.assertEqual(rows(answer[1]), list(expected))

    def test_one_of_each(self):
        self.assert_counts("time 1/1 voice a c4/1 | end", [1, 1, 1])
        self.assert_counts("time 1/1 voice a r/1 | end", [1, 1, 0])
        self.assert_counts("time 1/1 voice a [ c4 e4 g4 ]/1 | end", [1, 1, 1])

    def test_bars(self):
        self.assert_counts("time 1/4 voice a c4/4 | r/4 | short r/8 | c4/8 r/8 | end", [4, 5, 2])

    def test_within_tuplets(self):
        self.assert_counts("time 2/4 voice a {3:2 c4/4 {3:2 [ c4 d4 ]/8 r/8 r/8 } r/4 } | c4/2 | end", [2, 6, 3])

    def test_ties_make_no_difference(self):
        self.assert_counts("time 1/4 voice a c4/4~ | c4/8~ c4/8 | end", [2, 3, 3])

    def test_several_voices(self):
        self.assert_counts("time 2/4 voice a c4/2 | r/2 | end voice b c4/4 r/4 | {3:2 r/4 r/4 r/4 } | end"
                           " voice c [ c4 e4 ]/4 c4/4 | c4/4 [ c4 e4 ]/4 | end voice d r/2 | r/4 r/4 | end",
                           [2, 2, 1], [2, 5, 1], [2, 4, 4], [2, 3, 0])

    def test_each_voice_counts_its_own(self):
        self.assert_counts("time 1/4 voice a c4/4 | end voice b c4/8 r/8 | end", [1, 1, 1], [1, 2, 1])
