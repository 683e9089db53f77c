"""same: whether a text's score and the score have the same one form."""

import unittest

from tests.helper import BARS, COUNTS, FORM, place, read, same, same_bytes, sounds, told

WHOLE = ("time 2/4 key -3 voice up short [ c4 e4 ]/4~ | [ c4 e4 g4 ]/4. r/8 | {3:2 c#4/4. d4/8 b5/4 } | end"
         " voice low short r/4 | c2/2 | bb2/2 | end")

# One fault of each kind.
FAULTS = {
    1: "time 2/4 voice a c4/2 | end\t",
    2: "time 2/4 voice a c4/2 | ende",
    3: "time 2/4 voice a {3:2 {3:2 {3:2 {3:2 c4/4 } } } } | end",
    4: "time 2/4 voice a c4/2 | end voice a c4/2 | end",
    5: "time 2/4 voice a c4/4 | end",
    6: "time 2/4 voice a c4/2~ | r/2 | end",
    7: "time 2/4 voice a c4/2 | end voice b c4/2 | c4/2 | end",
}


class Same(unittest.TestCase):
    def assert_same(self, one, other):
        self.assertEqual(told(read(one), same(other)), [[0], [1]], other)
        self.assertEqual(told(read(other), same(one)), [[0], [1]], other)

    def assert_unlike(self, one, other):
        self.assertEqual(told(read(one), same(other)), [[0], [0]], other)
        self.assertEqual(told(read(other), same(one)), [[0], [0]], other)

    def assert_matters(self, old, new):
        """The text differs in one thing alone."""
        self.assertEqual(WHOLE.count(old), 1)
        self.assert_unlike(WHOLE, WHOLE.replace(old, new))

    def test_the_same_text(self):
        self.assert_same(WHOLE, WHOLE)
        self.assert_same("time 1/1 voice a c4/1 | end", "time 1/1 voice a c4/1 | end")

    def test_its_one_form(self):
        form = told(read(WHOLE), FORM)[1][2:]
        self.assertEqual(told(read(WHOLE), same_bytes(form)), [[0], [1]])

    def test_other_blanks_and_line_ends(self):
        self.assert_same(WHOLE, WHOLE.replace(" ", "\n"))
        self.assert_same(WHOLE, "\n " + WHOLE.replace(" ", "  \n") + "\n\n  ")

    def test_the_chords_pitches_in_another_order(self):
        self.assert_same(WHOLE, WHOLE.replace("[ c4 e4 ]", "[ e4 c4 ]").replace("[ c4 e4 g4 ]", "[ g4 c4 e4 ]"))
        self.assert_same("time 1/1 voice a [ c4 c#4 cb4 b3 ]/1 | end", "time 1/1 voice a [ b3 cb4 c4 c#4 ]/1 | end")

    def test_the_metre(self):
        self.assert_matters("2/4", "4/8")
        self.assert_matters("2/4", "1/2")
        self.assert_unlike("time 2/4 voice a short c4/4 | end", "time 3/4 voice a short c4/4 | end")

    def test_the_key(self):
        self.assert_matters("key -3", "key 3")
        self.assert_matters("key -3", "key -2")

    def test_no_key(self):
        self.assert_matters("key -3 ", "")

    def test_a_name(self):
        self.assert_matters("voice up", "voice upp")
        self.assert_matters("voice low", "voice lower")

    def test_the_order_of_voices(self):
        self.assert_unlike("time 1/4 voice a c4/4 | end voice b d4/4 | end",
                           "time 1/4 voice b d4/4 | end voice a c4/4 | end")
        self.assert_unlike("time 1/4 voice a c4/4 | end voice b c4/4 | end",
                           "time 1/4 voice b c4/4 | end voice a c4/4 | end")

    def test_one_voice_more(self):
        self.assert_unlike("time 1/4 voice a c4/4 | end", "time 1/4 voice a c4/4 | end voice b c4/4 | end")

    def test_one_bar_more(self):
        self.assert_unlike("time 1/4 voice a c4/4 | end", "time 1/4 voice a c4/4 | c4/4 | end")

    def test_where_bars_end(self):
        self.assert_unlike("time 2/4 voice a short c4/4 | short c4/8 c4/8 | end",
                           "time 2/4 voice a short c4/4 c4/8 | short c4/8 | end")

    def test_short(self):
        # "short" alone makes a right text a wrong one, so the metre has to differ too, or a bar's length.
        self.assert_unlike("time 2/4 voice a c4/2 | end", "time 4/4 voice a short c4/2 | end")
        self.assert_unlike("time 2/4 voice a c4/2 | end", "time 2/4 voice a short c4/4 | end")
        self.assertEqual(told(read("time 2/4 voice a c4/2 | end"), same("time 2/4 voice a short c4/2 | end")),
                         [[0], [-6]])

    def test_a_tie(self):
        self.assert_matters("]/4~", "]/4")
        self.assert_unlike("time 2/4 voice a c4/4 c4/4 | end", "time 2/4 voice a c4/4~ c4/4 | end")

    def test_a_dot(self):
        self.assert_unlike("time 2/4 voice a short c4/8 | end", "time 2/4 voice a short c4/8. | end")
        self.assert_unlike("time 2/4 voice a short c4/8. | end", "time 2/4 voice a short c4/8.. | end")

    def test_a_kind(self):
        self.assert_unlike("time 2/4 voice a short c4/8 | end", "time 2/4 voice a short c4/16 | end")
        self.assert_unlike("time 2/4 voice a c4/4 c4/8 r/8 | end", "time 2/4 voice a c4/8 c4/4 r/8 | end")

    def test_a_sign(self):
        for sign in ("", "b", "bb", "##"):
            self.assert_matters("c#4/4.", f"c{sign}4/4.")
        self.assert_matters("bb2/2", "b2/2")
        self.assert_matters("bb2/2", "a#2/2")

    def test_an_octave(self):
        self.assert_matters("b5/4", "b4/4")
        self.assert_matters("c2/2", "c3/2")

    def test_a_letter(self):
        self.assert_matters("d4/8", "e4/8")
        self.assert_matters(" c4 e4 g4 ", " c4 e4 f4 ")

    def test_a_chord_or_a_note(self):
        self.assert_matters(" c4 e4 g4 ", " c4 e4 ")
        self.assert_matters("d4/8", "[ d4 f4 ]/8")

    def test_a_rest_or_a_note(self):
        self.assert_matters("r/8", "c4/8")

    def test_a_tuplets_numbers(self):
        self.assert_unlike("time 2/4 voice a short {3:2 c4/8 } | end", "time 2/4 voice a short {5:2 c4/8 } | end")
        self.assert_unlike("time 2/4 voice a short {3:2 c4/8 } | end", "time 2/4 voice a short {3:4 c4/8 } | end")

    def test_tuplets_that_last_alike(self):
        self.assert_unlike("time 2/4 voice a short {3:2 c4/8 } | end", "time 2/4 voice a short {6:4 c4/8 } | end")
        self.assert_unlike("time 1/4 voice a {4:2 c4/8 c4/8 c4/4 } | end", "time 1/4 voice a c4/16 c4/16 c4/8 | end")

    def test_where_a_tuplet_ends(self):
        self.assert_unlike("time 2/4 voice a short {3:2 c4/8 } {3:2 c4/8 } | end",
                           "time 2/4 voice a short {3:2 c4/8 c4/8 } | end")


class Refusals(unittest.TestCase):
    def test_no_score(self):
        self.assertEqual(told(same(WHOLE)), [[-1]])

    def test_a_fault_of_each_kind(self):
        for kind, text in FAULTS.items():
            answer = told(read(WHOLE), same(text), read(text))
            self.assertEqual(answer[1], [-6], kind)
            self.assertEqual(answer[2][0], kind)

    def test_a_byte_that_cannot_stand_there(self):
        for byte in (0, 9, 13, 31, 127, 128, 255):
            self.assertEqual(told(read(WHOLE), same_bytes(list(WHOLE.encode()) + [byte])), [[0], [-6]])

    def test_the_empty_text(self):
        self.assertEqual(told(read(WHOLE), same("")), [[0], [-6]])
        self.assertEqual(told(read(WHOLE), same(" \n ")), [[0], [-6]])

    def test_just_1500_bytes(self):
        self.assertEqual(told(read(WHOLE), same(WHOLE.ljust(1500))), [[0], [1]])
        self.assertEqual(told(read(WHOLE), same(WHOLE.replace("-3", "-4").rjust(1500))), [[0], [0]])
        self.assertEqual(told(read(WHOLE), same(" " * 1500)), [[0], [-6]])

    def test_more_than_1500_bytes(self):
        for size in (1501, 2000):
            self.assertEqual(told(read(WHOLE), same(WHOLE.ljust(size))), [[0], [-8]])

    def test_more_than_1500_bytes_and_a_fault(self):
        for text in FAULTS.values():
            self.assertEqual(told(read(WHOLE), same(text.ljust(1501))), [[0], [-8]])
        self.assertEqual(told(read(WHOLE), same(" " * 1501)), [[0], [-8]])
        self.assertEqual(told(read(WHOLE), same_bytes([0] * 1501)), [[0], [-8]])

    def test_no_score_is_told_first(self):
        self.assertEqual(told(same(WHOLE.ljust(1501))), [[-1]])
        self.assertEqual(told(same("")), [[-1]])
        self.assertEqual(told(same_bytes([0] * 2000)), [[-1]])
        for text in FAULTS.values():
            self.assertEqual(told(same(text)), [[-1]])


class TheScoreStays(unittest.TestCase):
    def test_whatever_same_answers(self):
        asked = [FORM, COUNTS, sounds(0), sounds(1), sounds(2), BARS, place(1, 3)]
        other = "time 1/4 voice x r/4 | r/4 | end"
        for text in (WHOLE, other, "", WHOLE.ljust(1501), *FAULTS.values()):
            whole = told(read(WHOLE), *asked, same(text), *asked)
            self.assertEqual(whole[1:8], whole[9:], text)

    def test_it_is_no_read(self):
        other = "time 1/4 voice x r/4 | r/4 | end"
        self.assertEqual(told(read(WHOLE), same(other), same(other), same(WHOLE)), [[0], [0], [0], [1]])
        self.assertEqual(told(same(other), same(other), FORM), [[-1], [-1], [-1]])
