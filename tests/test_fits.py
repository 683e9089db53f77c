"""read: bars that aren't full, ties that meet nothing, voices that don't fit together; kinds 5 to 7."""

from tests.helper import TextCase


class Lengths(TextCase):
    def test_full_bars(self):
        for bar in ("c4/1", "c4/2 r/2", "c4/2. [ c4 e4 ]/4", "c4/2.. r/8", "r/4.. r/16 r/4 r/8 r/8",
                    "{3:2 c4/2 c4/2 c4/2 }", "{3:2 c4/4 [ c4 e4 ]/4 r/4 } c4/2"):
            self.assert_right(f"time 4/4 voice a {bar} | end")

    def test_metres(self):
        self.assert_right("time 3/8 voice a c4/4. | c4/8 c4/8 c4/8 | end")
        self.assert_right("time 32/1 voice a" + " c4/1" * 32 + " | end")
        self.assert_right("time 1/32 voice a c4/32 | c4/64 c4/64 | end")
        self.assert_right("time 7/16 voice a c4/4.. | end")
        self.assert_right("time 2/2 voice a c4/1 | end")
        self.assert_right("time 7/1 voice a c4/1.. c4/1.. c4/1.. c4/1.. | end")
        self.assert_fault(5, "time 3/8 voice a c4/4 ^| end")
        self.assert_fault(5, "time 3/4 voice a c4/1 ^| end")
        self.assert_fault(5, "time 32/1 voice a" + " c4/1" * 31 + " ^| end")

    def test_too_long_or_too_short(self):
        self.assert_fault(5, "time 4/4 voice a c4/2 ^| end")
        self.assert_fault(5, "time 4/4 voice a c4/1 c4/64 ^| end")
        self.assert_fault(5, "time 4/4 voice a c4/2.. r/16 r/32 r/64 ^| end")
        self.assert_fault(5, "time 4/4 voice a c4/1 | c4/1 | c4/1. ^| c4/2 | end")
        self.assert_fault(5, "time 4/4 voice a [ c4 e4 ]/2 ^| end")
        self.assert_fault(5, "time 4/4 voice a r/1 r/1 ^| end")

    def test_told_to_be_short(self):
        self.assert_right("time 4/4 voice a short c4/2 | end")
        self.assert_right("time 4/4 voice a c4/1 | short c4/2.. r/16.. | c4/1 | end")
        self.assert_right("time 1/32 voice a short {9:2 {9:2 {9:2 c4/64 } } } | end")
        self.assert_fault(5, "time 4/4 voice a short c4/1 ^| end")
        self.assert_fault(5, "time 4/4 voice a short c4/1 c4/4 ^| end")
        self.assert_fault(5, "time 4/4 voice a short c4/2.. c4/8 ^| end")
        self.assert_fault(5, "time 4/4 voice a short c4/2 | c4/2 ^| end")

    def test_dots(self):
        self.assert_right("time 3/4 voice a c4/2. | end")
        self.assert_right("time 7/8 voice a c4/2.. | end")
        self.assert_right("time 7/32 voice a c4/8.. | end")
        self.assert_right("time 7/32 voice a " + "c4/64.. " * 8 + "| end")
        self.assert_fault(5, "time 4/4 voice a c4/2.. c4/8. ^| end")

    def test_tuplets(self):
        self.assert_right("time 2/4 voice a {3:2 c4/4 c4/4 c4/4 } | end")
        self.assert_right("time 2/4 voice a {3:2 c4/2 c4/4 } | end")
        self.assert_right("time 3/8 voice a {2:3 c4/8 c4/8 } | end")
        self.assert_right("time 1/4 voice a {5:4 c4/16 c4/16 r/16 [ c4 e4 ]/16 c4/16 } | end")
        self.assert_right("time 1/4 voice a {9:8" + " c4/32" * 9 + " } | end")
        self.assert_right("time 1/4 voice a {7:8" + " c4/32" * 7 + " } | end")
        self.assert_fault(5, "time 2/4 voice a {3:2 c4/4 c4/4 } ^| end")
        self.assert_fault(5, "time 3/4 voice a {3:2 c4/4 c4/4 c4/4 } ^| end")
        self.assert_fault(5, "time 2/4 voice a {2:3 c4/4 c4/4 c4/4 } ^| end")

    def test_what_is_behind_a_tuplet_is_not_in_it(self):
        self.assert_right("time 3/4 voice a {3:2 c4/4 c4/4 c4/4 } c4/4 | end")
        self.assert_right("time 3/4 voice a c4/4 {3:2 c4/4 c4/4 c4/4 } | c4/2. | end")
        self.assert_right("time 4/4 voice a {3:2 c4/4 c4/4 c4/4 } {5:4 c4/8 c4/8 c4/8 c4/8 c4/8 } | end")

    def test_tuplets_in_tuplets(self):
        self.assert_right("time 2/4 voice a {3:2 c4/4 {3:2 c4/8 c4/8 c4/8 } c4/4 } | end")
        self.assert_right("time 2/4 voice a {3:2 c4/4 c4/4 {3:2 c4/8 c4/8 {5:4 c4/32 c4/32 r/32 c4/32 c4/32 } } } | end")
        self.assert_right("time 1/1 voice a {9:8 {9:8 {9:8 c4/1 c4/8 } c4/8 } c4/8 } | end")
        self.assert_fault(5, "time 2/4 voice a {3:2 c4/4 {3:2 c4/8 c4/8 c4/16 } c4/4 } ^| end")
        self.assert_fault(5, "time 2/4 voice a {3:2 c4/4 {3:2 c4/8 c4/8 c4/8 c4/4 } } ^| end")

    def test_each_n_three_deep(self):
        self.assert_right("time 1/1 voice a {2:4 r/4 {2:4 r/16 {2:4 r/64 r/64 } } } | end")
        for many in range(3, 10):
            inner = f"{{{many}:2" + " r/32" * many + " }"
            middle = f"{{{many}:2" + " r/16" * (many - 1) + f" {inner} }}"
            outer = f"{{{many}:2" + " r/8" * (many - 1) + f" {middle} }}"
            self.assert_right(f"time 1/4 voice a {outer} | end")
            self.assert_fault(5, f"time 1/4 voice a {outer} {{9:2 {{9:2 {{9:2 r/64 }} }} }} ^| end")

    def test_ahead_of_ties(self):
        self.assert_fault(5, "time 4/4 voice a c4/1~ | d4/1 | c4/2 ^| end")


class Ties(TextCase):
    def test_into_a_note(self):
        self.assert_right("time 2/4 voice a c4/4~ c4/4 | end")
        self.assert_right("time 2/4 voice a c4/4~ c4/8~ c4/8 | end")
        self.assert_fault(6, "time 2/4 voice a ^c4/4~ d4/4 | end")
        self.assert_fault(6, "time 2/4 voice a ^c4/4~ c5/4 | end")
        self.assert_fault(6, "time 2/4 voice a ^c4/4~ c#4/4 | end")
        self.assert_fault(6, "time 2/4 voice a ^c#4/4~ db4/4 | end")
        self.assert_fault(6, "time 2/4 voice a c4/8~ ^c4/8~ d4/4 | end")

    def test_into_a_chord(self):
        self.assert_right("time 2/4 voice a c4/4~ [ e4 c4 ]/4 | end")
        self.assert_right("time 2/4 voice a [ c4 e4 ]/4~ [ e4 c4 ]/4 | end")
        self.assert_right("time 2/4 voice a [ c4 e4 ]/4~ [ g4 e4 c4 ]/4 | end")
        self.assert_fault(6, "time 2/4 voice a ^[ c4 e4 g4 ]/4~ [ e4 c4 ]/4 | end")
        self.assert_fault(6, "time 2/4 voice a ^[ c4 e4 ]/4~ [ e4 d4 ]/4 | end")
        self.assert_fault(6, "time 2/4 voice a ^[ c4 e4 ]/4~ [ d4 c4 ]/4 | end")
        self.assert_fault(6, "time 2/4 voice a ^[ c4 e4 ]/4~ c4/4 | end")
        self.assert_fault(6, "time 2/4 voice a ^c4/4~ [ d4 e4 ]/4 | end")
        self.assert_fault(6, "time 2/4 voice a [ c4 e4 ]/8~ ^[ c4 e4 g4 ]/8~ [ e4 c4 ]/4 | end")

    def test_into_a_rest(self):
        self.assert_fault(6, "time 2/4 voice a ^c4/4~ r/4 | c4/2 | end")
        self.assert_fault(6, "time 3/4 voice a ^[ c4 e4 ]/4~ r/4 [ c4 e4 ]/4 | end")

    def test_over_a_bars_end(self):
        self.assert_right("time 1/4 voice a c4/4~ | c4/4~ | [ c4 e4 ]/4~ | [ c4 e4 ]/4 | end")
        self.assert_fault(6, "time 1/4 voice a ^c4/4~ | d4/4 | end")
        self.assert_fault(6, "time 1/4 voice a c4/4 | ^[ c4 e4 ]/4~ | r/4 | end")
        self.assert_right("time 1/4 voice a short c4/8~ | c4/4 | end")

    def test_in_and_out_of_tuplets(self):
        self.assert_right("time 4/4 voice a c4/4~ {3:2 c4/4 d4/4 e4/4~ } e4/4 | end")
        self.assert_fault(6, "time 4/4 voice a c4/4~ {3:2 c4/4 d4/4 ^e4/4~ } f4/4 | end")
        self.assert_fault(6, "time 4/4 voice a ^c4/4~ {3:2 e4/4 d4/4 e4/4~ } f4/4 | end")

    def test_at_the_voices_end(self):
        self.assert_fault(6, "time 1/1 voice a ^c4/1~ | end")
        self.assert_fault(6, "time 1/1 voice a ^[ c4 e4 ]/1~ | end")
        self.assert_fault(6, "time 1/1 voice a ^c4/1~ | end voice b c4/1 | end")
        self.assert_fault(6, "time 1/1 voice a c4/1 | end voice b ^c4/1~ | end voice c c4/1 | end")

    def test_the_first_counts(self):
        self.assert_fault(6, "time 3/4 voice a ^c4/4~ d4/4~ e4/4~ | end")


class Fits(TextCase):
    def test_voices_that_fit(self):
        self.assert_right("time 2/4 voice a c4/2 | short c4/4 | c4/2 | end"
                          " voice b c4/4 r/4 | short {3:2 c4/8 c4/8 r/8 } | r/2 | end")

    def test_a_bar_unlike_the_first_voices(self):
        self.assert_fault(7, "time 2/4 voice a short c4/4 | end voice b c4/2 ^| end")
        self.assert_fault(7, "time 2/4 voice a c4/2 | end voice b short c4/4 ^| end")
        self.assert_fault(7, "time 2/4 voice a short c4/4 | end voice b short c4/8 ^| end")
        self.assert_fault(7, "time 2/4 voice a c4/2 | short c4/4 | end voice b c4/2 | short c4/4. ^| end")
        self.assert_fault(7, "time 2/4 voice a short c4/4 | c4/2 | end voice b c4/2 ^| short c4/4 | end")

    def test_more_bars(self):
        self.assert_fault(7, "time 2/4 voice a c4/2 | end voice b c4/2 | c4/2 ^| end")
        self.assert_fault(7, "time 2/4 voice a c4/2 | c4/2 | end voice b c4/2 | c4/2 | c4/2 ^| c4/2 | end")

    def test_fewer_bars(self):
        self.assert_fault(7, "time 2/4 voice a c4/2 | c4/2 | end voice b c4/2 | ^end")
        self.assert_fault(7, "time 2/4 voice a c4/2 | c4/2 | c4/2 | end voice b c4/2 | ^end voice c c4/2 | end")
        self.assert_fault(7, "time 2/4 voice a c4/2 | c4/2 | end voice end c4/2 | ^end")

    def test_fewer_bars_and_one_unlike(self):
        self.assert_fault(7, "time 2/4 voice a c4/2 | c4/2 | c4/2 | end voice b c4/2 | short c4/4 ^| end")

    def test_it_is_the_first_voice_that_counts(self):
        self.assert_fault(7, "time 2/4 voice a c4/2 | end voice b c4/2 | end voice c c4/2 | c4/2 ^| end")
        self.assert_fault(7, "time 2/4 voice a c4/2 | short c4/4 | end voice b c4/2 | short r/4 | end"
                             " voice c c4/2 | c4/2 ^| end")


class Order(TextCase):
    def test_in_a_voice_bars_then_ties_then_fit(self):
        first = "time 2/4 voice a c4/2 | c4/2 | end voice b"
        self.assert_fault(5, first + " short c4/4~ | d4/4 ^| end")
        self.assert_fault(6, first + " short d4/4 | ^c4/2~ | end")
        self.assert_fault(7, first + " short d4/4 ^| c4/2 | end")
        self.assert_fault(6, first + " ^c4/2~ | end")

    def test_voices_one_behind_the_other(self):
        self.assert_fault(6, "time 2/4 voice a ^c4/2~ | end voice b c4/4 | end")
        self.assert_fault(7, "time 2/4 voice a c4/2 | end voice b short c4/4 ^| end voice c c4/4 | end")
        self.assert_fault(7, "time 2/4 voice a c4/2 | c4/2 | end voice b c4/2 | ^end voice c c4/2~ | c4/4 | end")
        self.assert_fault(5, "time 2/4 voice a c4/2 | end voice b c4/4 ^| end voice c c4/4 | end")
        self.assert_fault(5, "time 2/4 voice a c4/4 ^| end voice b c4/2~ | end")
