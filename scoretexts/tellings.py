"""What's told of a score: its one form, its counts, its sounds."""

from scoretexts.times import fraction


# The bytes of the one form.
def one_form(score):
    lines = ["time " + score.metre]
    if score.key != "":
        lines.append("key " + score.key)
    for voice in score.voices:
        lines.append("voice " + voice.name)
        lines.extend([" ".join(bar.words) for bar in voice.bars])
        lines.append("end")
    return [ord(sign) for sign in "".join([line + "\n" for line in lines])]


# How many bars; notes, chords and rests; notes and chords.
def voice_counts(voice):
    struck = [event for event in voice.events if event.pitches]
    return [len(voice.bars), len(voice.events), len(struck)]


# Of each sound a list of seven numbers.
def voice_sounds(voice):
    sounds = []
    time = 0
    tied_on = []
    for event, lasting in zip(voice.events, lasting_lengths(voice.events)):
        for pitch in event.pitches:
            if pitch not in tied_on:
                sounds.append([pitch[1], pitch[2], pitch[0]] + fraction(time) + fraction(lasting))
        time += event.length
        tied_on = event.pitches if event.tied else []
    return sounds


# Of each event, how long what begins there sounds; from the last one back, since a tie adds what's behind it.
def lasting_lengths(events):
    lengths = []
    lasting = 0
    for event in reversed(events):
        lasting = event.length + (lasting if event.tied else 0)
        lengths.append(lasting)
    lengths.reverse()
    return lengths
