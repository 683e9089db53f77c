"""The words of a text read one behind the other, up to the first that can't stand there."""

from scoretexts.faults import BAD_NAME, BAD_WORD, Fault, TOO_DEEP
from scoretexts.parts import Bar, Event, Score, Voice
from scoretexts.signs import chord_end_of, is_key, is_name, metre_length, note_or_rest_of, pitch_of, tuplet_of
from scoretexts.times import length_in_tuplets

MOST_VOICES = 4
LEAST_PITCHES = 2
MOST_PITCHES = 6
MOST_DEPTH = 3


class Reader:
    def __init__(self, words):
        self.words = words
        self.at = 0

    # The empty word at the text's end.
    def look(self):
        return self.words[self.at][0]

    def where(self):
        return self.words[self.at][1]

    # Gives back the word that's next and goes on behind it, if it's right.
    def take(self, right):
        word = self.look()
        if not right:
            raise Fault(BAD_WORD, self.where())
        self.at += 1
        return word


def read_words(words):
    reader = Reader(words)
    reader.take(reader.look() == "time")
    full = metre_length(reader.look())
    metre = reader.take(full is not None)
    key = read_key(reader)
    voices = [read_voice(reader, [])]
    while reader.look() != "":
        voices.append(read_voice(reader, [voice.name for voice in voices]))
    return Score(metre, full, key, voices)


def read_key(reader):
    if reader.look() != "key":
        return ""
    reader.take(True)
    return reader.take(is_key(reader.look()))


def read_voice(reader, names):
    reader.take(reader.look() == "voice")
    name = read_name(reader, names)
    events = []
    bars = [read_bar(reader, events)]
    while reader.look() != "end":
        bars.append(read_bar(reader, events))
    end = reader.where()
    reader.take(True)
    return Voice(name, bars, events, end)


def read_name(reader, names):
    word = reader.look()
    if is_name(word) and (word in names or len(names) == MOST_VOICES):
        raise Fault(BAD_NAME, reader.where())
    return reader.take(is_name(word))


# Puts the bar's notes, chords and rests behind the voice's events.
def read_bar(reader, events):
    bar = Bar(reader.look() == "short")
    if bar.short:
        reader.take(True)
    tuplets = []
    # Whether the innermost tuplet, or the bar if there's none, has no piece yet.
    bare = True
    while bare or tuplets or reader.look() != "|":
        tuplet = tuplet_of(reader.look())
        if tuplet is not None:
            begin_tuplet(reader, bar, tuplets, tuplet)
            bare = True
        elif reader.look() == "}" and tuplets and not bare:
            bar.words.append(reader.take(True))
            tuplets.pop()
        else:
            event = read_event(reader, bar, tuplets)
            bar.length += event.length
            events.append(event)
            bare = False
    bar.place = reader.where()
    bar.words.append(reader.take(True))
    return bar


def begin_tuplet(reader, bar, tuplets, tuplet):
    if len(tuplets) == MOST_DEPTH:
        raise Fault(TOO_DEEP, reader.where())
    bar.words.append(reader.take(True))
    tuplets.append(tuplet)


def read_event(reader, bar, tuplets):
    if reader.look() == "[":
        return read_chord(reader, bar, tuplets)
    place = reader.where()
    said = note_or_rest_of(reader.look())
    bar.words.append(reader.take(said is not None))
    return Event(place, said[0], length_in_tuplets(said[1], tuplets), said[2])


def read_chord(reader, bar, tuplets):
    place = reader.where()
    bar.words.append(reader.take(True))
    written = read_pitches(reader)
    pitches = sorted(written)
    bar.words.extend([written[pitch] for pitch in pitches])
    ended = chord_end_of(reader.look())
    bar.words.append(reader.take(ended is not None))
    return Event(place, pitches, length_in_tuplets(ended[0], tuplets), ended[1])


# A dict of the pitches and their words.
def read_pitches(reader):
    written = {}
    while len(written) < LEAST_PITCHES or chord_end_of(reader.look()) is None:
        pitch = pitch_of(reader.look())
        fits = pitch is not None and pitch not in written and len(written) < MOST_PITCHES
        written[pitch] = reader.take(fits)
    return written
