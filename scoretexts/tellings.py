"""What's told of a score: its one form, its counts, its sounds, its bars and where times lie in them."""

from scoretexts.times import WHOLE_NOTE, fraction, lowest_terms


# The bytes of the one form.
def one_form(score):
    lines = ["time " + score.metre]
    if score.key != "":
        lines.append("key " + score.key)
    for voice in score.voices:
        lines.append("voice " + voice.name)
        lines.extend([" ".join(bar.words) for bar in voice.bars])
        lines.append("end")
    return [ord(sign) for sign in "".join([line + "\n" for line in lines])]


# How many bars; notes, chords and rests; notes and chords.
def voice_counts(voice):
    struck = [event for event in voice.events if event.pitches]
    return [len(voice.bars), len(voice.events), len(struck)]


# Of each sound a list of seven numbers.
def voice_sounds(voice):
    sounds = []
    time = 0
    tied_on = []
    for event, lasting in zip(voice.events, lasting_lengths(voice.events)):
        for pitch in event.pitches:
            if pitch not in tied_on:
                sounds.append([pitch[1], pitch[2], pitch[0]] + fraction(time) + fraction(lasting))
        time += event.length
        tied_on = event.pitches if event.tied else []
    return sounds


# Of each event, how long what begins there sounds; from the last one back, since a tie adds what's behind it.
def lasting_lengths(events):
    lengths = []
    lasting = 0
    for event in reversed(events):
        lasting = event.length + (lasting if event.tied else 0)
        lengths.append(lasting)
    lengths.reverse()
    return lengths


# Bars are alike in all voices, so those of the first one are the score's.
def score_bars(score):
    return score.voices[0].bars


# Of each bar a list of four numbers.
def bar_times(score):
    rows = []
    time = 0
    for bar in score_bars(score):
        rows.append(fraction(time) + fraction(bar.length))
        time += bar.length
    return rows


# The number of the bar in which the time lies, and how long behind its beginning that is (two numbers);
# None, if it's behind all bars.
def bar_of_time(score, upper, lower):
    # A time needn't be a whole number of units, but times the lower number it is: so all is reckoned that often.
    left = upper * WHOLE_NOTE
    for number, bar in enumerate(score_bars(score)):
        length = bar.length * lower
        if left < length:
            return (number, lowest_terms(left, WHOLE_NOTE * lower))
        left -= length
    return None
