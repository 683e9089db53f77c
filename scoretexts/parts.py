"""What a score is made of. Lengths are in the units of scoretexts.times."""


class Score:
    def __init__(self, metre, full, key, voices):
        self.metre = metre
        # How long a bar is that isn't told to be short.
        self.full = full
        # The empty text, if there's no key.
        self.key = key
        self.voices = voices


class Voice:
    def __init__(self, name, bars, events, end):
        self.name = name
        self.bars = bars
        # Kept for the whole voice, since ties don't mind bars.
        self.events = events
        self.end = end


class Bar:
    def __init__(self, short):
        self.short = short
        # As they stand in the one form.
        self.words = ["short"] if short else []
        self.length = 0
        self.place = 0


# A note, a chord or a rest; its pitches rise, and a rest has none.
class Event:
    def __init__(self, place, pitches, length, tied):
        self.place = place
        self.pitches = pitches
        self.length = length
        self.tied = tied
