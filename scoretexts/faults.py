"""The first fault of a text."""

BAD_BYTE = 1
BAD_WORD = 2
TOO_DEEP = 3
BAD_NAME = 4
BAD_LENGTH = 5
BAD_TIE = 6
UNLIKE_BAR = 7


class Fault(Exception):
    def __init__(self, kind, place):
        self.kind = kind
        self.place = place
