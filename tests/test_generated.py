"""Scores made by a fixed rule: what's told of them is reckoned here from how they were made, in fractions."""

import random
import unittest
from fractions import Fraction

from tests.helper import BARS, COUNTS, FORM, place, read, read_bytes, rows, same, same_bytes, sounds, told

SIGNS = ("bb", "b", "", "#", "##")
LETTERS = "cdefgab"


class Maker:
    """Makes one score; keeps its words, and of each voice what's told of it."""

    def __init__(self, seed):
        self.random = random.Random(seed)
        self.words = []
        self.lines = []
        self.counts = []
        self.sounds = []

    def make(self):
        upper = self.random.randint(1, 5)
        lower = self.random.choice((1, 2, 4, 8))
        self.full = Fraction(upper, lower)
        self.put_line("time", f"{upper}/{lower}")
        if self.random.random() < 0.5:
            self.put_line("key", self.random.choice(("", "-")) + str(self.random.randint(1, 7)))
        shape = [self.random.random() < 0.3 for bar in range(self.random.randint(1, 4))]
        self.lengths = [self.full / 2 if short else self.full for short in shape]
        names = self.random.sample(("a", "end", "upper", "z", "voice", "bass", "abcdefgh"), self.random.randint(1, 4))
        for name in names:
            self.make_voice(name, shape)
        return self

    def put_line(self, *words):
        self.words.extend(words)
        self.lines.append(" ".join(words))

    def make_voice(self, name, shape):
        self.put_line("voice", name)
        # Of each note, chord or rest: its pitches, when it begins, how long it is, whether it's tied.
        self.events = []
        self.time = Fraction(0)
        self.forced = []
        for number, short in enumerate(shape):
            self.make_bar(short, number == len(shape) - 1)
        self.put_line("end")
        struck = [event for event in self.events if event[0]]
        self.counts.append([len(shape), len(self.events), len(struck)])
        self.sounds.append(self.reckon_sounds())

    def make_bar(self, short, last):
        start = len(self.words)
        self.sorted_words = ["short"] if short else []
        self.words.extend(self.sorted_words)
        wanted = self.full / 2 if short else self.full
        while wanted:
            size = next(size for size in self.sizes() if size <= wanted)
            wanted -= size
            self.make_span(size, 3, 1, last and not wanted)
        self.put("|")
        self.lines.append(" ".join(self.sorted_words))
        assert len(self.words) - start == len(self.sorted_words)

    def sizes(self):
        sizes = [Fraction(1, 1), Fraction(1, 2), Fraction(1, 4), Fraction(1, 8), Fraction(1, 16)]
        return sizes[self.random.randint(0, 2):]

    def put(self, *words):
        self.words.extend(words)
        self.sorted_words.extend(words)

    def make_span(self, size, depth, scale, last):
        """What lasts as long as size, as it's written, all times scale."""
        if depth and Fraction(1, 16) <= size <= Fraction(1, 4) and self.random.random() < 0.3:
            many = self.random.randint(2, 9)
            time = self.random.choice([time for time in (2, 4, 8) if time != many])
            if size / time >= Fraction(1, 64):
                self.put("{%d:%d" % (many, time))
                for number in range(many):
                    self.make_span(size / time, depth - 1, scale * Fraction(time, many), last and number == many - 1)
                self.put("}")
                return
        if size >= Fraction(1, 16) and self.random.random() < 0.3:
            self.make_event(size / 2, ".", size * 3 / 4, scale, False)
            self.make_event(size / 4, "", size / 4, scale, last)
        elif size >= Fraction(1, 8) and self.random.random() < 0.2:
            self.make_event(size / 2, "..", size * 7 / 8, scale, False)
            self.make_event(size / 8, "", size / 8, scale, last)
        else:
            self.make_event(size, "", size, scale, last)

    def make_event(self, sign, dots, size, scale, last):
        pitches = dict.fromkeys(self.forced)
        for number in range(self.random.choice((0, 0, 1, 1, 1, 2, 3))):
            if len(pitches) < 6:
                pitches[self.random.randint(3, 5), self.random.randint(0, 6), self.random.randint(0, 4)] = None
        tied = bool(pitches) and not last and self.random.random() < 0.4
        written = [LETTERS[letter] + SIGNS[accidental] + str(octave) for octave, letter, accidental in pitches]
        length = f"/{sign.denominator}{dots}{'~' if tied else ''}"
        if not pitches:
            self.put("r" + length)
        elif len(pitches) == 1:
            self.put(written[0] + length)
        else:
            order = list(range(len(written)))
            self.random.shuffle(order)
            self.words.extend(["["] + [written[number] for number in order] + ["]" + length])
            rising = [word for pitch, word in sorted(zip(pitches, written))]
            self.sorted_words.extend(["["] + rising + ["]" + length])
        self.events.append((sorted(pitches), self.time, size * scale, tied))
        self.time += size * scale
        self.forced = sorted(pitches) if tied else []

    def reckon_sounds(self):
        told_sounds = []
        held = {}
        for pitches, begin, length, tied in self.events:
            sounding = {}
            for pitch in pitches:
                sound = held.get(pitch)
                if sound is None:
                    sound = [pitch, begin, Fraction(0)]
                    told_sounds.append(sound)
                sound[2] += length
                sounding[pitch] = sound
            held = sounding if tied else {}
        return [[letter, accidental, octave, begin.numerator, begin.denominator, length.numerator, length.denominator]
                for (octave, letter, accidental), begin, length in told_sounds]

    def bars(self):
        return [(sum(self.lengths[:number], Fraction(0)), length) for number, length in enumerate(self.lengths)]

    def place(self, time):
        for number, (begin, length) in enumerate(self.bars()):
            if begin <= time < begin + length:
                return [number, 2, *parts(time - begin)]
        return [-4]

    def text(self):
        gaps = (" ", "\n", "  ", " \n", "\n\n")
        spread = "".join(word + self.random.choice(gaps) for word in self.words)
        return spread if len(spread) <= 1500 else " ".join(self.words)

    def form(self):
        return [ord(sign) for sign in "".join(line + "\n" for line in self.lines)]


def parts(time):
    return time.numerator, time.denominator


class Generated(unittest.TestCase):
    @classmethod
    def setUpClass(cls):
        """Makes scores and their texts; those are left out that have too many bytes."""
        made_scores = [Maker(seed).make() for seed in range(1500)]
        pairs = [(made, made.text()) for made in made_scores]
        cls.made_scores = [(made, text) for made, text in pairs if len(text) < 1500]

    def test_enough_are_made(self):
        self.assertGreater(len(self.made_scores), 800)

    def test_what_is_told_of_made_scores(self):
        for made, text in self.made_scores:
            voices = range(len(made.counts))
            whole = told(read(text), FORM, COUNTS, *[sounds(voice) for voice in voices], sounds(len(voices)))
            self.assertEqual(whole[0], [0], text)
            self.assertEqual(whole[1][2:], made.form(), text)
            self.assertEqual(rows(whole[2]), made.counts, text)
            for voice in voices:
                self.assertEqual(rows(whole[3 + voice]), made.sounds[voice], text)
            self.assertEqual(whole[-1], [-2])
            again = told(read_bytes(whole[1][2:]), FORM, COUNTS, *[sounds(voice) for voice in voices])
            self.assertEqual(again, whole[:-1], text)

    def test_bars_of_made_scores(self):
        for made, text in self.made_scores:
            expected = [[*parts(begin), *parts(length)] for begin, length in made.bars()]
            self.assertEqual(rows(told(read(text), BARS)[1]), expected, text)

    def test_places_in_made_scores(self):
        source = random.Random(6)
        for made, text in self.made_scores:
            times = [(source.randint(0, 12), source.randint(1, 9)) for number in range(20)]
            times += [parts(begin) for begin, length in made.bars()]
            times.append(parts(sum(made.lengths)))
            whole = told(read(text), *[place(upper, lower) for upper, lower in times])
            self.assertEqual(whole[1:], [made.place(Fraction(*time)) for time in times], text)
            self.assertEqual(whole[-1], [-4])

    def test_made_scores_are_the_same_as_their_forms_alone(self):
        before = None
        for made, text in self.made_scores:
            whole = told(read(text), same_bytes(made.form()), same(made.text()), same(text), FORM)
            self.assertEqual(whole[:4], [[0], [1], [1], [1]], text)
            if before is not None:
                alike = made.form() == before.form()
                self.assertEqual(told(read(text), same_bytes(before.form())), [[0], [int(alike)]], text)
            before = made
