"""The calls on one score, written one behind another in one list of whole numbers."""

from scoretexts.checks import check_score
from scoretexts.faults import Fault
from scoretexts.reader import read_words
from scoretexts.tellings import bar_of_time, bar_times, one_form, voice_counts, voice_sounds
from scoretexts.words import check_bytes, words_of

READ = 0
FORM = 1
COUNTS = 2
SOUNDS = 3
BARS = 4
SAME = 5
PLACE = 6

NO_SCORE = -1
NO_VOICE = -2
NO_TIME = -2
BEHIND_END = -4
FAULTY_TEXT = -6
TOO_LONG = -8

MOST_BYTES = 1500
MOST_OF_A_TIME = 1000000


def answers(calls):
    desk = Desk()
    told = []
    at = 0
    while at < len(calls):
        behind = call_end(calls, at)
        answer = desk.answer(calls[at], calls[at + 1:behind])
        told.append(len(answer))
        told.extend(answer)
        at = behind
    return told


def call_end(calls, at):
    call = calls[at]
    if call in (READ, SAME):
        return at + 2 + calls[at + 1]
    if call == PLACE:
        return at + 3
    if call == SOUNDS:
        return at + 2
    if call in (FORM, COUNTS, BARS):
        return at + 1
    raise ValueError("no such call")


# Keeps the score that the calls are about.
class Desk:
    def __init__(self):
        self.score = None

    # given is what stands behind the call's number.
    def answer(self, call, given):
        if call == READ:
            return self.answer_read(given[1:])
        if self.score is None:
            return [NO_SCORE]
        if call == FORM:
            return self.answer_form()
        if call == COUNTS:
            return self.answer_counts()
        if call == SOUNDS:
            return self.answer_sounds(given[0])
        if call == BARS:
            return self.answer_bars()
        if call == SAME:
            return self.answer_same(given[1:])
        return self.answer_place(given[0], given[1])

    def answer_read(self, text):
        if len(text) > MOST_BYTES:
            return [TOO_LONG]
        try:
            self.score = score_of(text)
        except Fault as fault:
            return [fault.kind, 1, fault.place]
        return [0]

    def answer_form(self):
        form = one_form(self.score)
        return [len(form), len(form)] + form

    def answer_counts(self):
        return with_rows([voice_counts(voice) for voice in self.score.voices])

    def answer_sounds(self, voice):
        if voice >= len(self.score.voices):
            return [NO_VOICE]
        return with_rows(voice_sounds(self.score.voices[voice]))

    def answer_bars(self):
        return with_rows(bar_times(self.score))

    def answer_same(self, text):
        if len(text) > MOST_BYTES:
            return [TOO_LONG]
        try:
            other = score_of(text)
        except Fault:
            return [FAULTY_TEXT]
        return [1 if one_form(other) == one_form(self.score) else 0]

    def answer_place(self, upper, lower):
        if lower == 0 or upper > MOST_OF_A_TIME or lower > MOST_OF_A_TIME:
            return [NO_TIME]
        found = bar_of_time(self.score, upper, lower)
        if found is None:
            return [BEHIND_END]
        return [found[0], len(found[1])] + found[1]


def score_of(text):
    check_bytes(text)
    score = read_words(words_of(text))
    check_score(score)
    return score


# How many rows, then each with how many numbers it has ahead of it.
def with_rows(rows):
    answer = [len(rows)]
    for row in rows:
        answer.append(len(row))
        answer.extend(row)
    return answer
