"""What the tests share: calls as lists of numbers, answers taken apart, texts with a marked place."""

import unittest

from scoretexts.score import answers

FORM = [1]
COUNTS = [2]
BARS = [4]


def read_bytes(text):
    return [0, len(text)] + list(text)


def read(text):
    return read_bytes(text.encode("ascii"))


def sounds(voice):
    return [3, voice]


def same_bytes(text):
    return [5, len(text)] + list(text)


def same(text):
    return same_bytes(text.encode("ascii"))


def place(upper, lower):
    return [6, upper, lower]


def joined(calls):
    return [number for call in calls for number in call]


def told(*calls):
    """The answers of the calls, a list each."""
    numbers = answers(joined(calls))
    lists = []
    while numbers:
        size = numbers[0]
        lists.append(numbers[1:1 + size])
        assert len(lists[-1]) == size, "an answer is cut off"
        numbers = numbers[1 + size:]
    assert len(lists) == len(calls), "not an answer for each call"
    return lists


def rows(answer):
    """The lists of an answer, without their counts."""
    lists = []
    at = 1
    while at < len(answer):
        lists.append(answer[at + 1:at + 1 + answer[at]])
        at += 1 + answer[at]
    assert at == len(answer) and len(lists) == answer[0], "the lists don't add up"
    return lists


def form_of(text):
    """The one form of a text that's right, as a text."""
    answer = told(read(text), FORM)
    assert answer[0] == [0], f"not read: {answer[0]}"
    size = answer[1][0]
    assert answer[1][1] == size and len(answer[1]) == size + 2, "the form's counts are off"
    return bytes(answer[1][2:]).decode("ascii")


def sounds_of(text, voice=0):
    answer = told(read(text), sounds(voice))
    assert answer[0] == [0], f"not read: {answer[0]}"
    return rows(answer[1])


def bars_of(text):
    answer = told(read(text), BARS)
    assert answer[0] == [0], f"not read: {answer[0]}"
    return rows(answer[1])


class TextCase(unittest.TestCase):
    """In a text that's handed to these, ^ stands just ahead of the fault's place."""

    def assert_right(self, text):
        self.assertEqual(told(read(text)), [[0]], text)

    def assert_fault(self, kind, marked):
        place = marked.index("^")
        text = marked[:place] + marked[place + 1:]
        self.assertEqual(told(read(text)), [[kind, 1, place]], marked)

    def assert_piece(self, piece):
        """The piece stands in a short bar of a metre that's long enough for any."""
        self.assert_right(f"time 32/1 voice a short {piece} | end")

    def assert_bad_piece(self, kind, marked):
        self.assert_fault(kind, f"time 32/1 voice a short {marked} c4/1 | end")
