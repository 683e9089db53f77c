"""read: the words of a text, kinds 1 to 4."""

from tests.helper import TextCase, form_of, read_bytes, told

ONE = "time 4/4 voice a c4/1 | end"


class Bytes(TextCase):
    def test_each_byte_behind_a_right_text(self):
        text = list(ONE.encode())
        for byte in range(256):
            answer = told(read_bytes(text + [32, byte]))[0]
            if byte in (10, 32):
                self.assertEqual(answer, [0])
            elif 32 < byte < 127:
                self.assertEqual(answer, [2, 1, len(text) + 1], byte)
            else:
                self.assertEqual(answer, [1, 1, len(text) + 1], byte)

    def test_each_byte_within_a_word(self):
        for byte in range(256):
            right = bytes([byte]) in (b"a", b"b", b"c", b"d", b"e", b"f", b"g")
            text = list(b"time 4/4 voice a ") + [byte] + list(b"4/1 | end")
            kind = 2 if byte == 10 or 32 <= byte <= 126 else 1
            place = 18 if byte in (10, 32) else 17
            self.assertEqual(told(read_bytes(text))[0], [0] if right else [kind, 1, place], byte)

    def test_ahead_of_all_other_faults(self):
        self.assertEqual(told(read_bytes(b"nothing \x00")), [[1, 1, 8]])
        self.assertEqual(told(read_bytes(b"time 4/4 voice a c4/2 | end\x7f")), [[1, 1, 27]])
        self.assertEqual(told(read_bytes(b"time 4/4 voice a c4/1 | end voice a\xff")), [[1, 1, 35]])
        self.assertEqual(told(read_bytes(b"time 4/4 voice a c4/1~ | end \t")), [[1, 1, 29]])

    def test_the_first_of_several(self):
        self.assertEqual(told(read_bytes(b"time\r\n4/4\t\x80")), [[1, 1, 4]])
        self.assertEqual(told(read_bytes([9, 200])), [[1, 1, 0]])


class Gaps(TextCase):
    def test_no_word_at_all(self):
        self.assert_fault(2, "^")
        self.assert_fault(2, "     ^")
        self.assert_fault(2, "\n\n^")
        self.assert_fault(2, " \n \n\n ^")

    def test_any_number_anywhere(self):
        self.assert_right("\n\n  time\n4/4 \n voice   a\n\nc4/1\n|\nend\n \n")
        self.assert_right(" time 4/4 key -3 voice a [ c4 e4 ]/1 | end")

    def test_places_count_bytes(self):
        self.assert_fault(2, "  \n time \n\n ^4/5 voice")
        self.assert_fault(2, "time 4/4 voice a c4/1 |  \n^ende \n")
        self.assert_fault(2, "time 4/4 voice a c4/1 | \n\n^")

    def test_words_run_together(self):
        self.assert_fault(2, "^time4/4 voice a c4/1 | end")
        self.assert_fault(2, "time 4/4 voice a ^c4/1| end")
        self.assert_fault(2, "time 4/4 voice a ^[c4 e4 ]/1 | end")
        self.assert_fault(2, "time 4/4 voice a [ c4 e4 ^] /1 | end")
        self.assert_fault(2, "time 4/4 voice a ^{ 3:2 c4/1 } | end")
        self.assert_fault(2, "time ^4 /4 voice a c4/1 | end")


class Score(TextCase):
    def test_time(self):
        self.assert_fault(2, "^voice a c4/1 | end")
        self.assert_fault(2, "^Time 4/4 voice a c4/1 | end")
        self.assert_fault(2, "^key 1 time 4/4 voice a c4/1 | end")
        self.assert_fault(2, "time ^time 4/4 voice a c4/1 | end")
        self.assert_fault(2, "time^")
        self.assert_fault(2, "time ^voice a c4/1 | end")

    def test_metres(self):
        for upper in range(1, 33):
            for lower in (1, 2, 4, 8, 16, 32):
                self.assert_right(f"time {upper}/{lower} voice a short c4/64 | end")

    def test_metres_that_are_none(self):
        for metre in ("0/4", "33/4", "100/4", "04/4", "4/0", "4/3", "4/5", "4/64", "4/04", "4/", "/4", "4", "4/4/4",
                      "4:4", "-4/4", "4/-4", "4/33", "a/4", "4/a", "/", "1000/4", "4//4", "4/4.", "4/128", "032/4"):
            self.assert_fault(2, f"time ^{metre} voice a c4/1 | end")

    def test_keys(self):
        for key in range(1, 8):
            self.assert_right(f"time 1/1 key {key} voice a c4/1 | end")
            self.assert_right(f"time 1/1 key -{key} voice a c4/1 | end")

    def test_keys_that_are_none(self):
        for key in ("0", "-0", "8", "-8", "9", "10", "-10", "01", "-01", "+1", "--1", "-", "1-", "c", "voice", "key",
                    "1.", "100", "1000", "001"):
            self.assert_fault(2, f"time 1/1 key ^{key} voice a c4/1 | end")
        self.assert_fault(2, "time 1/1 key^")

    def test_where_a_key_stands(self):
        self.assert_fault(2, "time 1/1 key 1 ^key 1 voice a c4/1 | end")
        self.assert_fault(2, "time 1/1 voice a c4/1 | end ^key 1")
        self.assert_fault(2, "time 1/1 ^1 voice a c4/1 | end")

    def test_no_voice(self):
        self.assert_fault(2, "time 1/1^")
        self.assert_fault(2, "time 1/1 \n^")
        self.assert_fault(2, "time 1/1 key 1^")
        self.assert_fault(2, "time 1/1 ^c4/1 | end")
        self.assert_fault(2, "time 1/1 ^end")

    def test_what_follows_a_voice(self):
        self.assert_fault(2, "time 1/1 voice a c4/1 | end ^end")
        self.assert_fault(2, "time 1/1 voice a c4/1 | end ^c4/1 | end")
        self.assert_fault(2, "time 1/1 voice a c4/1 | end ^time 1/1")
        self.assert_fault(2, "time 1/1 voice a c4/1 | end voice^")

    def test_one_to_four_voices(self):
        text = "time 1/1"
        for name in ("a", "b", "c", "d"):
            text += f" voice {name} c4/1 | end"
            self.assert_right(text)


class Voices(TextCase):
    def test_names(self):
        for name in ("a", "z", "ab", "abcdefg", "abcdefgh", "zzzzzzzz", "voice", "end", "short", "time", "key", "r"):
            self.assert_right(f"time 1/1 voice {name} c4/1 | end")
            self.assertIn(f"\nvoice {name}\n", form_of(f"time 1/1 voice {name} c4/1 | end"))

    def test_each_letter(self):
        for letter in "abcdefghijklmnopqrstuvwxyz":
            self.assert_right(f"time 1/1 voice x{letter} c4/1 | end")

    def test_names_that_are_none(self):
        for name in ("abcdefghi", "A", "aB", "a1", "1", "a-b", "a_b", "|", "a.", "{", "`", "a{", "a~", "c4/1"):
            self.assert_fault(2, f"time 1/1 voice ^{name} c4/1 | end")
        self.assert_fault(2, "time 1/1 voice^")

    def test_a_name_that_another_voice_has(self):
        self.assert_fault(4, "time 1/1 voice a c4/1 | end voice ^a c4/1 | end")
        self.assert_fault(4, "time 1/1 voice a c4/1 | end voice b c4/1 | end voice ^a")
        self.assert_fault(4, "time 1/1 voice a c4/1 | end voice b c4/1 | end voice ^b end")
        self.assert_right("time 1/1 voice a c4/1 | end voice aa c4/1 | end voice b c4/1 | end")

    def test_a_fifth_voice(self):
        four = "time 1/1" + "".join(f" voice {name} c4/1 | end" for name in "abcd")
        self.assert_fault(4, four + " voice ^e c4/1 | end")
        self.assert_fault(4, four + " voice ^abcdefgh")
        self.assert_fault(4, four + " voice ^a c4/1 | end")
        self.assert_fault(4, four + " voice ^end")
        self.assert_fault(2, four + " voice ^abcdefghi c4/1 | end")
        self.assert_fault(2, four + " voice ^E c4/1 | end")
        self.assert_fault(2, four + " voice ^|")
        self.assert_fault(2, four + " voice^")
        self.assert_fault(2, four + " voice \n^")
        self.assert_fault(2, four + " ^e")

    def test_no_bar(self):
        self.assert_fault(2, "time 1/1 voice a ^end")
        self.assert_fault(2, "time 1/1 voice a^")
        self.assert_fault(2, "time 1/1 voice a ^| end")
        self.assert_fault(2, "time 1/1 voice a ^voice b c4/1 | end")

    def test_no_end(self):
        self.assert_fault(2, "time 1/1 voice a c4/1 |^")
        self.assert_fault(2, "time 1/1 voice a c4/1 | ^voice b c4/1 | end")
        self.assert_fault(2, "time 1/1 voice a c4/1 | ^ende")


class Bars(TextCase):
    def test_no_piece(self):
        self.assert_fault(2, "time 1/1 voice a c4/1 | ^| end")
        self.assert_fault(2, "time 1/1 voice a short ^| end")
        self.assert_fault(2, "time 1/1 voice a short^")
        self.assert_fault(2, "time 1/1 voice a short ^end")

    def test_short_only_at_the_beginning(self):
        self.assert_right("time 1/1 voice a short c4/2 | short c4/2 | c4/1 | end")
        self.assert_fault(2, "time 1/1 voice a short ^short c4/2 | end")
        self.assert_fault(2, "time 1/1 voice a c4/2 ^short | end")
        self.assert_fault(2, "time 1/1 voice a {3:2 ^short c4/2 } | end")
        self.assert_fault(2, "time 1/1 voice a c4/1 | end ^short")
        self.assert_fault(2, "time 1/1 ^short voice a c4/2 | end")

    def test_no_bar_line(self):
        self.assert_fault(2, "time 1/1 voice a c4/1 ^end")
        self.assert_fault(2, "time 1/1 voice a c4/1^")
        self.assert_fault(2, "time 1/1 voice a c4/1 ^|| end")
        self.assert_fault(2, "time 1/1 voice a c4/1 ^voice b")


class Pieces(TextCase):
    def test_lengths(self):
        for kind in (1, 2, 4, 8, 16, 32, 64):
            for dots in ("", ".", ".."):
                self.assert_piece(f"c4/{kind}{dots}")
                self.assert_piece(f"c4/{kind}{dots}~ c4/1")
                self.assert_piece(f"r/{kind}{dots}")
                self.assert_piece(f"[ c4 d4 ]/{kind}{dots}")
                self.assert_piece(f"[ c4 d4 ]/{kind}{dots}~ [ c4 d4 ]/1")
                self.assert_bad_piece(2, f"^r/{kind}{dots}~")

    def test_lengths_that_are_none(self):
        for length in ("", "/", "/0", "/3", "/5", "/128", "/04", "/4...", "/4~~", "/4~.", "/.4", "/~", "/.", "4", ":4",
                       "/4/4", "//4", "/4-", "/1.~.", "/256", "/6", "/46", "/64a", "/4q", "/...", "/4....", "/00", "/4~/"):
            self.assert_bad_piece(2, f"^c4{length}")
            self.assert_bad_piece(2, f"^r{length}")
            self.assert_bad_piece(2, f"[ c4 d4 ^]{length}")

    def test_pitches(self):
        for letter in "cdefgab":
            for sign in ("", "#", "##", "b", "bb"):
                for octave in range(10):
                    self.assert_piece(f"{letter}{sign}{octave}/4")
                self.assert_piece(f"[ {letter}{sign}4 c9 ]/4")

    def test_pitches_that_are_none(self):
        for pitch in ("", "c", "4", "h4", "C4", "c10", "c-1", "c###4", "cbbb4", "c#b4", "cb#4", "#4", "##4", "c4#",
                      "c4b", "cc4", "r4", "c#", "bbbb4", "bbb", "bb", "b", "z4", "cn4", "c.4", "B4", "c4.", "-c4"):
            self.assert_bad_piece(2, f"^{pitch}/4")
            if pitch:
                self.assert_bad_piece(2, f"[ d5 ^{pitch} ]/4")
                self.assert_bad_piece(2, f"[ ^{pitch} d5 ]/4")

    def test_the_letter_b_with_flats(self):
        for pitch in ("b4", "bb4", "bbb4", "b#4", "b##4"):
            self.assert_piece(f"{pitch}/4")
        self.assert_piece("[ b4 bb4 bbb4 ]/4")
        self.assert_bad_piece(2, "^bbbb4/4")
        self.assert_bad_piece(2, "^bb#4/4")

    def test_other_words(self):
        for word in ("x", "end", "voice", "time", "]", "]/4", "}", "c4", "/4", "rr/4", "R/4", "{", "[c4", "[[", ":"):
            self.assert_bad_piece(2, f"^{word}")
            self.assert_bad_piece(2, f"c4/4 ^{word}")
        self.assert_bad_piece(2, "c4/4 ^short")


class Chords(TextCase):
    def test_how_many_pitches(self):
        for many in range(2, 7):
            pitches = " ".join(f"{letter}4" for letter in "cdefga"[:many])
            self.assert_piece(f"[ {pitches} ]/4")

    def test_too_few(self):
        self.assert_bad_piece(2, "[ ^]/4")
        self.assert_bad_piece(2, "[ c4 ^]/4")

    def test_too_many(self):
        self.assert_bad_piece(2, "[ c4 d4 e4 f4 g4 a4 ^b4 ]/4")

    def test_a_pitch_twice(self):
        self.assert_bad_piece(2, "[ c4 ^c4 ]/4")
        self.assert_bad_piece(2, "[ c#4 d4 e4 ^c#4 ]/4")
        self.assert_bad_piece(2, "[ bb4 b4 ^bb4 ]/4")
        self.assert_piece("[ c#4 db4 c4 c5 cb4 ]/4")

    def test_what_cannot_stand_in_it(self):
        for word in ("c4/4", "r", "r/4", "[", "{3:2", "|", "}", "]", "]/3", "/4", "end", "short"):
            self.assert_bad_piece(2, f"[ ^{word}")
            self.assert_bad_piece(2, f"[ c4 ^{word}")
            self.assert_bad_piece(2, f"[ c4 e4 ^{word}")
            self.assert_bad_piece(2, f"[ c4 d4 e4 f4 g4 a4 ^{word}")

    def test_the_end_in_it(self):
        for begun in ("[", "[ c4", "[ c4 d4", "[ c4 d4 e4 f4 g4 a4", "[ c4 d4 ]/4"):
            self.assert_fault(2, f"time 4/4 voice a {begun}^")

    def test_a_tuplet_within_it_is_no_beginning(self):
        self.assert_bad_piece(2, "{3:2 {3:2 {3:2 [ c4 ^{3:2")


class Tuplets(TextCase):
    def test_n_and_m(self):
        for many in range(0, 12):
            for time in range(0, 12):
                if 2 <= many <= 9 and 2 <= time <= 9 and many != time:
                    self.assert_piece(f"{{{many}:{time} c4/4 }}")
                else:
                    self.assert_bad_piece(2, f"^{{{many}:{time} c4/4 }}")

    def test_beginnings_that_are_none(self):
        for word in ("{", "{3", "{3:", "{:2", "{:", "{03:2", "{3:02", "{3:2:4", "{3/2", "3:2", "{3:2}", "{{3:2", "{3;2",
                     "{a:2", "{3:a", "{-3:2", "{3:-2", "{100:2", "{3:1000", "{3:2."):
            self.assert_bad_piece(2, f"^{word} c4/4 }}")

    def test_what_it_holds(self):
        self.assert_piece("{3:2 r/4 }")
        self.assert_piece("{3:2 [ c4 e4 ]/4 c4/8 r/8 }")
        self.assert_piece("{3:2 {5:4 c4/4 } }")
        self.assert_piece("{3:2 {5:4 c4/4 } {7:8 c4/4 } c4/4 } {2:3 r/4 } r/4")

    def test_an_empty_one(self):
        self.assert_bad_piece(2, "{3:2 ^}")
        self.assert_bad_piece(2, "c4/4 {3:2 ^}")
        self.assert_bad_piece(2, "{3:2 c4/4 {3:2 ^} }")
        self.assert_bad_piece(2, "{3:2 c4/4 } {3:2 ^}")

    def test_one_that_is_not_ended(self):
        self.assert_fault(2, "time 4/4 voice a {3:2 c4/4 ^| end")
        self.assert_fault(2, "time 4/4 voice a {3:2 {3:2 c4/4 } ^| end")
        self.assert_fault(2, "time 4/4 voice a {3:2 ^| end")
        self.assert_fault(2, "time 4/4 voice a {3:2 c4/4 ^end")
        self.assert_fault(2, "time 4/4 voice a {3:2 c4/4^")
        self.assert_fault(2, "time 4/4 voice a {3:2^")

    def test_one_ended_where_none_is_begun(self):
        self.assert_bad_piece(2, "^}")
        self.assert_bad_piece(2, "c4/4 ^}")
        self.assert_bad_piece(2, "{3:2 c4/4 } ^}")
        self.assert_bad_piece(2, "{3:2 {3:2 c4/4 } } ^}")
        self.assert_fault(2, "time 4/4 voice a c4/1 | ^}")

    def test_three_deep(self):
        self.assert_piece("{3:2 {3:2 {3:2 c4/4 } } }")
        self.assert_piece("{3:2 {3:2 {3:2 c4/4 } {5:4 c4/4 } } {5:4 {5:4 c4/4 } } }")

    def test_four_deep(self):
        self.assert_bad_piece(3, "{3:2 {3:2 {3:2 ^{3:2 c4/4 } } } }")
        self.assert_bad_piece(3, "{3:2 {3:2 {3:2 c4/4 ^{9:8")
        self.assert_bad_piece(3, "{3:2 {3:2 c4/4 {5:4 c4/4 } {3:2 c4/4 ^{2:9 c4/4 } } } }")

    def test_four_deep_but_none(self):
        for word in ("{3:3", "{1:2", "{3:10", "{", "{03:2", "}"):
            self.assert_bad_piece(2, f"{{3:2 {{3:2 {{3:2 ^{word} c4/4")

    def test_depth_begins_anew_with_each_bar(self):
        self.assert_right("time 1/4 voice a short {3:2 {3:2 {3:2 c4/64 } } } | short {3:2 {3:2 {3:2 c4/64 } } } | end")


class Order(TextCase):
    def test_words_are_looked_at_ahead_of_bars_and_ties(self):
        self.assert_fault(2, "time 4/4 voice a c4/2 | c4/1~ | end ^x")
        self.assert_fault(4, "time 4/4 voice a c4/2 | c4/1~ | end voice ^a")
        self.assert_fault(3, "time 4/4 voice a c4/2 | {3:2 {3:2 {3:2 ^{3:2")

    def test_the_first_word_counts(self):
        self.assert_fault(2, "time 1/1 voice a ^x | end voice a")
        self.assert_fault(4, "time 1/1 voice a c4/1 | end voice ^a x")
        self.assert_fault(3, "time 1/1 voice a {3:2 {3:2 {3:2 ^{3:2 x")
