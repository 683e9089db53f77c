"""What single words say. Each function answers None or False for a word that doesn't say such a thing."""

from scoretexts.times import dotted_length, parts_length

ALPHABET = "abcdefghijklmnopqrstuvwxyz"
LETTERS = "cdefgab"
ALTERATIONS = {"bb": 0, "b": 1, "": 2, "#": 3, "##": 4}
KINDS = {"1": 1, "2": 2, "4": 4, "8": 8, "16": 16, "32": 32, "64": 64}
METRE_PARTS = {"1": 1, "2": 2, "4": 4, "8": 8, "16": 16, "32": 32}
MOST_PARTS = 32
MOST_KEY = 7
MOST_NAME = 8
MOST_DIGITS = 3
MOST_DOTS = 2


# The number, if it's one from least to most.
def number_within(text, least, most):
    if not text.isdigit() or len(text) > MOST_DIGITS:
        return None
    if len(text) > 1 and text[0] == "0":
        return None
    value = int(text)
    return value if least <= value <= most else None


def metre_length(word):
    parts = word.partition("/")
    upper = number_within(parts[0], 1, MOST_PARTS)
    lower = METRE_PARTS.get(parts[2])
    if upper is None or lower is None:
        return None
    return parts_length(upper, lower)


def is_key(word):
    sharps = word[1:] if word.startswith("-") else word
    return number_within(sharps, 1, MOST_KEY) is not None


def is_name(word):
    return 1 <= len(word) <= MOST_NAME and all([sign in ALPHABET for sign in word])


# The pair n, m of a tuplet's beginning.
def tuplet_of(word):
    if not word.startswith("{"):
        return None
    parts = word[1:].partition(":")
    many = number_within(parts[0], 2, 9)
    time = number_within(parts[2], 2, 9)
    if many is None or time is None or many == time:
        return None
    return (many, time)


# The octave, the letter and the sign, all from 0, in this order: so pitches rise as such tuples do.
def pitch_of(word):
    if len(word) < 2 or not word[-1].isdigit():
        return None
    letter = LETTERS.find(word[0])
    alteration = ALTERATIONS.get(word[1:-1])
    if letter < 0 or alteration is None:
        return None
    return (int(word[-1]), letter, alteration)


# How long, and whether it's tied on.
def length_of(text):
    if not text.startswith("/"):
        return None
    tied = text.endswith("~")
    dotted = text[1:-1] if tied else text[1:]
    plain = dotted.rstrip(".")
    dots = len(dotted) - len(plain)
    kind = KINDS.get(plain)
    if kind is None or dots > MOST_DOTS:
        return None
    return (dotted_length(kind, dots), tied)


# The length, and whether it's tied on, of a chord's last word.
def chord_end_of(word):
    return length_of(word[1:]) if word.startswith("]") else None


# The pitches (a rest has none), the length, and whether it's tied on.
def note_or_rest_of(word):
    parts = word.partition("/")
    length = length_of(parts[1] + parts[2])
    if length is None:
        return None
    if parts[0] == "r":
        return None if length[1] else ([], length[0], False)
    pitch = pitch_of(parts[0])
    return None if pitch is None else ([pitch], length[0], length[1])
