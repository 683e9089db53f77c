"""What's looked at in a score whose words are all right: its bars, its ties, how its voices fit together."""

from scoretexts.faults import BAD_LENGTH, BAD_TIE, Fault, UNLIKE_BAR


def check_score(score):
    for voice in score.voices:
        check_lengths(voice, score.full)
        check_ties(voice)
        check_fit(voice, score.voices[0])


def check_lengths(voice, full):
    for bar in voice.bars:
        right = bar.length < full if bar.short else bar.length == full
        if not right:
            raise Fault(BAD_LENGTH, bar.place)


def check_ties(voice):
    # Nothing follows the last one: it's as if a rest did.
    followers = [event.pitches for event in voice.events[1:]] + [[]]
    for event, follower in zip(voice.events, followers):
        if event.tied and not all([pitch in follower for pitch in event.pitches]):
            raise Fault(BAD_TIE, event.place)


def check_fit(voice, first):
    for at, bar in enumerate(voice.bars):
        if at >= len(first.bars) or bar.length != first.bars[at].length:
            raise Fault(UNLIKE_BAR, bar.place)
    if len(voice.bars) < len(first.bars):
        raise Fault(UNLIKE_BAR, voice.end)
