"""sounds: what sounds when."""

import unittest
from fractions import Fraction

from tests.helper import read, sounds, sounds_of, told


class Sounds(unittest.TestCase):
    def assert_sounds(self, bars, *expected, metre="1/1"):
        self.assertEqual(sounds_of(f"time {metre} voice a {bars} end"), [list(row) for row in expected])

    def test_one_note(self):
        self.assert_sounds("c4/1 |", (0, 2, 4, 0, 1, 1, 1))

    def test_no_sound(self):
        self.assert_sounds("r/1 | r/1 |")

    def test_letters_signs_and_octaves(self):
        for letter, name in enumerate("cdefgab"):
            for sign, written in enumerate(("bb", "b", "", "#", "##")):
                for octave in range(10):
                    self.assert_sounds(f"{name}{written}{octave}/1 |", (letter, sign, octave, 0, 1, 1, 1))

    def test_times_in_lowest_terms(self):
        self.assert_sounds("c4/4 d4/4 e4/8 f4/8. g4/16 r/16 a4/16. b4/32 |",
                           (0, 2, 4, 0, 1, 1, 4), (1, 2, 4, 1, 4, 1, 4), (2, 2, 4, 1, 2, 1, 8), (3, 2, 4, 5, 8, 3, 16),
                           (4, 2, 4, 13, 16, 1, 16), (5, 2, 4, 15, 16, 3, 32), (6, 2, 4, 33, 32, 1, 32), metre="17/16")

    def test_lengths(self):
        for kind in (1, 2, 4, 8, 16, 32, 64):
            for dots, part in (("", Fraction(1)), (".", Fraction(3, 2)), ("..", Fraction(7, 4))):
                length = part / kind
                self.assert_sounds(f"short c4/{kind}{dots} d4/64 |", (0, 2, 4, 0, 1, *parts(length)),
                                   (1, 2, 4, *parts(length), 1, 64), metre="32/1")

    def test_times_go_on_over_bars_and_rests(self):
        self.assert_sounds("r/2. | short c4/8 | r/4 d4/4 r/4 | e4/2. |",
                           (0, 2, 4, 3, 4, 1, 8), (1, 2, 4, 9, 8, 1, 4), (2, 2, 4, 13, 8, 3, 4), metre="3/4")

    def test_times_above_a_whole_note(self):
        self.assert_sounds("c4/1 | d4/1 | e4/2 f4/2 | g4/1 |",
                           (0, 2, 4, 0, 1, 1, 1), (1, 2, 4, 1, 1, 1, 1), (2, 2, 4, 2, 1, 1, 2),
                           (3, 2, 4, 5, 2, 1, 2), (4, 2, 4, 3, 1, 1, 1))

    def test_tuplets(self):
        self.assert_sounds("{3:2 c4/4 d4/4 e4/4 } |",
                           (0, 2, 4, 0, 1, 1, 6), (1, 2, 4, 1, 6, 1, 6), (2, 2, 4, 1, 3, 1, 6), metre="1/2")

    def test_tuplets_in_tuplets(self):
        self.assert_sounds("{3:2 c4/4 {5:4 d4/16. r/16 e4/16 f4/16. } g4/4 } |",
                           (0, 2, 4, 0, 1, 1, 6), (1, 2, 4, 1, 6, 1, 20), (2, 2, 4, 1, 4, 1, 30),
                           (3, 2, 4, 17, 60, 1, 20), (4, 2, 4, 1, 3, 1, 6), metre="1/2")

    def test_the_smallest_parts(self):
        for many in range(2, 10):
            for other in range(2, 10):
                time = 2 if many != 2 else 9
                less = 3 if other != 3 else 4
                length = Fraction(7, 256) * Fraction(time, many) ** 2 * Fraction(less, other)
                begun = f"{{{many}:{time} {{{other}:{less} {{{many}:{time} c4/64.. }} }} }}"
                self.assert_sounds(f"short {begun} d4/4 |", (0, 2, 4, 0, 1, *parts(length)),
                                   (1, 2, 4, *parts(length), 1, 4), metre="32/1")

    def test_three_unlike_tuplets(self):
        self.assert_sounds("short {9:2 {7:3 {5:4 c4/64.. } } } c4/4 |",
                           (0, 2, 4, 0, 1, 1, 480), (0, 2, 4, 1, 480, 1, 4), metre="2/1")

    def test_chords_rise(self):
        self.assert_sounds("[ g4 c4 e4 ]/2 [ c5 c#4 cb4 b3 c4 ]/2 |",
                           (0, 2, 4, 0, 1, 1, 2), (2, 2, 4, 0, 1, 1, 2), (4, 2, 4, 0, 1, 1, 2),
                           (6, 2, 3, 1, 2, 1, 2), (0, 1, 4, 1, 2, 1, 2), (0, 2, 4, 1, 2, 1, 2), (0, 3, 4, 1, 2, 1, 2),
                           (0, 2, 5, 1, 2, 1, 2))

    def test_the_same_pitch_again_without_a_tie(self):
        self.assert_sounds("c4/2 c4/2 | [ c4 e4 ]/1 |",
                           (0, 2, 4, 0, 1, 1, 2), (0, 2, 4, 1, 2, 1, 2), (0, 2, 4, 1, 1, 1, 1), (2, 2, 4, 1, 1, 1, 1))

    def test_a_tie(self):
        self.assert_sounds("c4/2~ c4/4 c4/4 |", (0, 2, 4, 0, 1, 3, 4), (0, 2, 4, 3, 4, 1, 4))

    def test_ties_over_several_notes_and_bars(self):
        self.assert_sounds("r/2 c4/2~ | c4/1~ | c4/4~ c4/4. c4/8 r/4 |",
                           (0, 2, 4, 1, 2, 17, 8), (0, 2, 4, 21, 8, 1, 8))

    def test_ties_in_and_out_of_tuplets(self):
        self.assert_sounds("c4/4~ {3:2 c4/4~ c4/4 d4/4~ } d4/4 |",
                           (0, 2, 4, 0, 1, 7, 12), (1, 2, 4, 7, 12, 5, 12))

    def test_a_tie_between_chords(self):
        self.assert_sounds("[ c4 e4 ]/2~ [ e4 c4 ]/2 |", (0, 2, 4, 0, 1, 1, 1), (2, 2, 4, 0, 1, 1, 1))

    def test_a_tie_into_a_chord_that_has_more(self):
        self.assert_sounds("c4/4~ [ e4 c4 ]/4~ [ c4 e4 g4 ]/4 c4/4 |",
                           (0, 2, 4, 0, 1, 3, 4), (2, 2, 4, 1, 4, 1, 2), (4, 2, 4, 1, 2, 1, 4), (0, 2, 4, 3, 4, 1, 4))
        self.assert_sounds("e4/2~ [ c4 e4 g4 ]/2~ | [ c4 e4 g4 ]/1 |",
                           (2, 2, 4, 0, 1, 2, 1), (0, 2, 4, 1, 2, 3, 2), (4, 2, 4, 1, 2, 3, 2))

    def test_a_tie_from_what_is_tied_itself(self):
        self.assert_sounds("c4/4 c4/4~ c4/4 c4/4 |",
                           (0, 2, 4, 0, 1, 1, 4), (0, 2, 4, 1, 4, 1, 2), (0, 2, 4, 3, 4, 1, 4))

    def test_unlike_pitches_that_sound_alike(self):
        self.assert_sounds("c#4/2~ [ db4 c#4 ]/2 |", (0, 3, 4, 0, 1, 1, 1), (1, 1, 4, 1, 2, 1, 2))

    def test_each_voice_has_its_own(self):
        text = "time 1/2 voice a c4/2 | end voice b r/4 d5/4 | end voice c r/2 | end"
        self.assertEqual(sounds_of(text, 0), [[0, 2, 4, 0, 1, 1, 2]])
        self.assertEqual(sounds_of(text, 1), [[1, 2, 5, 1, 4, 1, 4]])
        self.assertEqual(sounds_of(text, 2), [])

    def test_no_such_voice(self):
        for voice in (1, 2, 4, 255, 4294967295):
            self.assertEqual(told(read("time 1/1 voice a c4/1 | end"), sounds(voice)), [[0], [-2]])


def parts(length):
    return length.numerator, length.denominator
