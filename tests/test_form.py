"""form: a score's one form."""

import itertools

from tests.helper import BARS, COUNTS, FORM, TextCase, form_of, read, read_bytes, same, sounds, told


class Form(TextCase):
    def assert_form(self, text, form):
        self.assertEqual(form_of(text), form)
        self.assert_read_back(text)

    def assert_read_back(self, text):
        """What's written in its one form is read as the same score."""
        calls = [FORM, COUNTS, sounds(0), sounds(1), sounds(2), sounds(3), BARS, same(text)]
        first = told(read(text), *calls)
        again = told(read_bytes(first[1][2:]), *calls)
        self.assertEqual(first[0], [0])
        self.assertEqual(first[-1], [1])
        self.assertEqual(again, first)

    def test_without_a_key(self):
        self.assert_form("time 4/4 voice a c4/1 | end", "time 4/4\nvoice a\nc4/1 |\nend\n")

    def test_with_a_key(self):
        for key in ("1", "7", "-1", "-7"):
            self.assert_form(f"time 32/32 key {key} voice a c4/1 | end",
                             f"time 32/32\nkey {key}\nvoice a\nc4/1 |\nend\n")

    def test_blanks_and_line_ends(self):
        self.assert_form("\n\n  time \n\n2/4   key\n-3\nvoice\n\nup c4/4\n\n\nr/4   |\n c4/2\n|\n  end   \n\n ",
                         "time 2/4\nkey -3\nvoice up\nc4/4 r/4 |\nc4/2 |\nend\n")
        self.assert_form("time 2/4\nvoice a\nc4/2 |\nend\n", "time 2/4\nvoice a\nc4/2 |\nend\n")

    def test_several_voices(self):
        self.assert_form("time 1/4 voice d c4/4 | r/4 | end voice c r/4 | r/4 | end voice end e4/4 | r/4 | end"
                         " voice a g4/8. r/16 | b4/4 | end",
                         "time 1/4\nvoice d\nc4/4 |\nr/4 |\nend\nvoice c\nr/4 |\nr/4 |\nend\n"
                         "voice end\ne4/4 |\nr/4 |\nend\nvoice a\ng4/8. r/16 |\nb4/4 |\nend\n")

    def test_short_bars(self):
        self.assert_form("time 2/4 voice a short c4/4 | c4/2 | short r/4.. | end",
                         "time 2/4\nvoice a\nshort c4/4 |\nc4/2 |\nshort r/4.. |\nend\n")

    def test_tuplets(self):
        self.assert_form("time 2/4 voice a {3:2\nc4/4 {3:2 c4/8\n\nr/8 [ e4 c4 ]/8 } c4/4 }   | end",
                         "time 2/4\nvoice a\n{3:2 c4/4 {3:2 c4/8 r/8 [ c4 e4 ]/8 } c4/4 } |\nend\n")

    def test_lengths_and_ties(self):
        self.assert_form("time 4/4 voice a c4/2..~ [ e4 c4 ]/16.~ [ c4 e4 g4 ]/32 | end",
                         "time 4/4\nvoice a\nc4/2..~ [ c4 e4 ]/16.~ [ c4 e4 g4 ]/32 |\nend\n")

    def test_notes_stay_in_their_order(self):
        self.assert_form("time 1/1 voice a g4/4 c4/4 [ g4 c4 ]/4 [ c4 b3 ]/4 | end",
                         "time 1/1\nvoice a\ng4/4 c4/4 [ c4 g4 ]/4 [ b3 c4 ]/4 |\nend\n")

    def assert_rising(self, *pitches):
        rising = " ".join(pitches)
        for order in itertools.permutations(pitches):
            text = f"time 1/1 voice a [ {' '.join(order)} ]/1 | end"
            self.assert_form(text, f"time 1/1\nvoice a\n[ {rising} ]/1 |\nend\n")

    def test_a_chords_pitches_rise(self):
        self.assert_rising("c4", "e4")
        self.assert_rising("b3", "c4", "c5")
        self.assert_rising("c0", "b8", "c9")
        self.assert_rising("c4", "d4", "e4", "f4", "g4")
        self.assert_rising("f4", "g4", "a4", "b4")
        self.assert_rising("cbb4", "cb4", "c4", "c#4", "c##4")
        self.assert_rising("bbb4", "bb4", "b4", "b#4", "b##4")

    def test_rising_is_by_what_is_written(self):
        self.assert_rising("c##4", "dbb4")
        self.assert_rising("b##3", "cbb4")

    def test_the_last_chord_of_six(self):
        self.assert_form("time 1/1 voice a [ b4 a4 g4 f4 e4 c#4 ]/1 | end",
                         "time 1/1\nvoice a\n[ c#4 e4 f4 g4 a4 b4 ]/1 |\nend\n")

    def test_form_changes_nothing(self):
        whole = told(read("time 1/1 voice a [ e4 c4 ]/1 | end"), FORM, COUNTS, FORM)
        self.assertEqual(whole[1], whole[3])
