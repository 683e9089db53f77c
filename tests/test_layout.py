"""How calls are handed in and answers given back; refusals; what's kept and what isn't."""

import contextlib
import io
import unittest

from scoretexts.score import answers
from tests.helper import BARS, COUNTS, FORM, joined, place, read, read_bytes, same, sounds, told

ONE = "time 4/4 voice a c4/1 | end"
ONE_FORM = b"time 4/4\nvoice a\nc4/1 |\nend\n"
TWO = "time 2/4 voice x r/4 d4/4 | end voice y e5/2 | end"
BAD = "time 4/4 voice a c4/2 | end"

# All seven calls; read with a fault, a refusal and neither; the others with all they can answer.
ALL = [read(BAD), FORM, COUNTS, sounds(0), BARS, same(ONE), place(0, 1), read(TWO), FORM, COUNTS, sounds(0), sounds(7),
       BARS, same(TWO), same(ONE), same(BAD), same(" " * 1501), place(1, 4), place(1, 0), place(1, 2),
       read(" " * 1600), read(""), same("")]


class Layout(unittest.TestCase):
    def test_read_that_is_right(self):
        self.assertEqual(answers(read(ONE)), [1, 0])

    def test_read_with_a_fault(self):
        self.assertEqual(answers(read(BAD)), [3, 5, 1, 22])

    def test_read_refused(self):
        self.assertEqual(answers(read(" " * 1501)), [1, -8])

    def test_form(self):
        size = len(ONE_FORM)
        self.assertEqual(answers(read(ONE) + FORM), [1, 0, size + 2, size, size] + list(ONE_FORM))

    def test_counts(self):
        self.assertEqual(answers(read(TWO) + COUNTS), [1, 0, 9, 2, 3, 1, 2, 1, 3, 1, 1, 1])

    def test_sounds(self):
        self.assertEqual(answers(read(TWO) + sounds(0)), [1, 0, 9, 1, 7, 1, 2, 4, 1, 4, 1, 4])
        self.assertEqual(answers(read(TWO) + sounds(1)), [1, 0, 9, 1, 7, 2, 2, 5, 0, 1, 1, 2])

    def test_sounds_of_a_voice_of_rests(self):
        self.assertEqual(answers(read("time 1/1 voice a r/1 | end") + sounds(0)), [1, 0, 1, 0])

    def test_bars(self):
        self.assertEqual(answers(read(ONE) + BARS), [1, 0, 6, 1, 4, 0, 1, 1, 1])
        self.assertEqual(answers(read("time 2/4 voice a short r/4 | r/2 | end") + BARS),
                         [1, 0, 11, 2, 4, 0, 1, 1, 4, 4, 1, 4, 1, 2])

    def test_same(self):
        self.assertEqual(answers(read(ONE) + same(ONE)), [1, 0, 1, 1])
        self.assertEqual(answers(read(ONE) + same(TWO)), [1, 0, 1, 0])
        self.assertEqual(answers(read(ONE) + same(BAD)), [1, 0, 1, -6])
        self.assertEqual(answers(read(ONE) + same(" " * 1501)), [1, 0, 1, -8])

    def test_place(self):
        self.assertEqual(answers(read(ONE) + place(3, 4)), [1, 0, 4, 0, 2, 3, 4])
        self.assertEqual(answers(read(ONE) + place(1, 1)), [1, 0, 1, -4])
        self.assertEqual(answers(read(ONE) + place(1, 0)), [1, 0, 1, -2])

    def test_all_seven_calls(self):
        form = b"time 2/4\nvoice x\nr/4 d4/4 |\nend\nvoice y\ne5/2 |\nend\n"
        self.assertEqual(told(*ALL), [
            [5, 1, 22], [-1], [-1], [-1], [-1], [-1], [-1], [0], [len(form), len(form)] + list(form),
            [2, 3, 1, 2, 1, 3, 1, 1, 1], [1, 7, 1, 2, 4, 1, 4, 1, 4], [-2], [1, 4, 0, 1, 1, 2], [1], [0], [-6], [-8],
            [0, 2, 1, 4], [-2], [-4], [-8], [2, 1, 0], [-6]])

    def test_numbers_of_calls_within_texts_and_times_are_no_calls(self):
        text = [number for number in range(7)]
        calls = [read(ONE), read_bytes(text), [5, 7] + text, place(5, 6), place(4, 3), sounds(6), sounds(0), BARS]
        self.assertEqual(told(*calls), [[0], [1, 1, 0], [-6], [0, 2, 5, 6], [-4], [-2], [1, 7, 0, 2, 4, 0, 1, 1, 1],
                                        [1, 4, 0, 1, 1, 1]])

    def test_empty_texts_between_calls(self):
        self.assertEqual(told(read(ONE), read(""), BARS, same(""), BARS, place(0, 5)),
                         [[0], [2, 1, 0], [1, 4, 0, 1, 1, 1], [-6], [1, 4, 0, 1, 1, 1], [0, 2, 0, 1]])

    def test_several_calls_in_order(self):
        calls = [COUNTS, read(BAD), read(TWO), COUNTS, sounds(2), sounds(1), FORM, read(ONE), COUNTS]
        form = b"time 2/4\nvoice x\nr/4 d4/4 |\nend\nvoice y\ne5/2 |\nend\n"
        self.assertEqual(told(*calls), [
            [-1], [5, 1, 22], [0], [2, 3, 1, 2, 1, 3, 1, 1, 1], [-2], [1, 7, 2, 2, 5, 0, 1, 1, 2],
            [len(form), len(form)] + list(form), [0], [1, 3, 1, 1, 1]])

    def test_thirty_calls(self):
        self.assertEqual(told(read(ONE), *[COUNTS] * 29), [[0]] + [[1, 3, 1, 1, 1]] * 29)

    def test_thirty_calls_of_all_kinds(self):
        size = len(ONE_FORM)
        round_of_calls = [FORM, COUNTS, sounds(0), BARS, same(ONE), place(1, 2), read(ONE)]
        answered = [[size, size] + list(ONE_FORM), [1, 3, 1, 1, 1], [1, 7, 0, 2, 4, 0, 1, 1, 1], [1, 4, 0, 1, 1, 1],
                    [1], [0, 2, 1, 2], [0]]
        self.assertEqual(told(read(ONE), *round_of_calls * 4, BARS), [[0]] + answered * 4 + [[1, 4, 0, 1, 1, 1]])

    def test_thirty_long_texts(self):
        text = "time 1/4 voice a " + "r/4 | " * 160 + "end"
        whole = told(*[read(text), same(text)] * 14, BARS, place(159, 4))
        self.assertEqual(whole[:28], [[0], [1]] * 14)
        self.assertEqual([whole[28][0], whole[29]], [160, [159, 2, 0, 1]])

    def test_a_call_that_is_not_there(self):
        with self.assertRaises(ValueError):
            answers([7])


class Refusals(unittest.TestCase):
    def test_no_score(self):
        self.assertEqual(answers(FORM), [1, -1])
        self.assertEqual(answers(COUNTS), [1, -1])
        self.assertEqual(answers(sounds(0)), [1, -1])
        self.assertEqual(answers(BARS), [1, -1])
        self.assertEqual(answers(same(ONE)), [1, -1])
        self.assertEqual(answers(place(0, 1)), [1, -1])

    def test_of_several_the_first_told(self):
        self.assertEqual(told(same(" " * 1501), same(BAD), same(""), place(0, 0), place(1000001, 1)), [[-1]] * 5)
        self.assertEqual(told(read(ONE), same(BAD.ljust(1501)), place(1000001, 1), place(1, 0)),
                         [[0], [-8], [-2], [-2]])

    def test_no_score_is_told_ahead_of_no_voice(self):
        self.assertEqual(answers(sounds(4294967295)), [1, -1])

    def test_no_score_after_a_fault_or_a_refusal(self):
        asked = [FORM, COUNTS, sounds(0), BARS, same(ONE), place(0, 1)]
        self.assertEqual(told(read(BAD), *asked), [[5, 1, 22]] + [[-1]] * 6)
        self.assertEqual(told(read(" " * 1501), *asked), [[-8]] + [[-1]] * 6)

    def test_no_such_voice(self):
        for voice in (2, 3, 4, 1000, 4294967295):
            self.assertEqual(told(read(TWO), sounds(voice), COUNTS), [[0], [-2], [2, 3, 1, 2, 1, 3, 1, 1, 1]])
        self.assertEqual(told(read(ONE), sounds(1)), [[0], [-2]])

    def test_the_last_of_four_voices(self):
        text = "time 1/1" + "".join(f" voice {name} c4/1 | end" for name in "abcd")
        self.assertEqual(told(read(text), sounds(3), sounds(4)), [[0], [1, 7, 0, 2, 4, 0, 1, 1, 1], [-2]])

    def test_just_1500_bytes(self):
        self.assertEqual(told(read(ONE.ljust(1500)), COUNTS), [[0], [1, 3, 1, 1, 1]])
        self.assertEqual(told(read(" " * 1500)), [[2, 1, 1500]])

    def test_more_than_1500_bytes(self):
        for size in (1501, 2000):
            self.assertEqual(told(read(ONE.ljust(size))), [[-8]])
        self.assertEqual(told(read_bytes([0] * 1501)), [[-8]])
        self.assertEqual(told(read_bytes([0] * 1500)), [[1, 1, 0]])


class Kept(unittest.TestCase):
    def test_a_fault_leaves_the_score(self):
        for text in (BAD, "", "time", "time 4/4 voice a c4/1~ | end", "time 1/4 voice a c4/4 | end voice b"):
            whole = told(read(ONE), FORM, read(text), FORM, COUNTS)
            self.assertEqual(whole[1], whole[3])
            self.assertEqual(whole[4], [1, 3, 1, 1, 1])

    def test_a_refusal_leaves_the_score(self):
        whole = told(read(ONE), FORM, read(TWO.ljust(1501)), FORM, sounds(9), FORM)
        self.assertEqual([whole[2], whole[4]], [[-8], [-2]])
        self.assertEqual(whole[1], whole[3])
        self.assertEqual(whole[1], whole[5])

    def test_a_second_score_counts_from_then_on(self):
        whole = told(read(ONE), COUNTS, read(TWO), COUNTS, sounds(1), FORM)
        self.assertEqual(whole[1], [1, 3, 1, 1, 1])
        self.assertEqual(whole[3], [2, 3, 1, 2, 1, 3, 1, 1, 1])
        self.assertEqual(whole[4], [1, 7, 2, 2, 5, 0, 1, 1, 2])
        self.assertEqual(whole[5], told(read(TWO), FORM)[1])

    def test_bars_same_and_place_are_about_the_score_that_was_read_last(self):
        asked = [BARS, same(ONE), same(TWO), place(1, 2)]
        one = [[1, 4, 0, 1, 1, 1], [1], [0], [0, 2, 1, 2]]
        two = [[1, 4, 0, 1, 1, 2], [0], [1], [-4]]
        self.assertEqual(told(read(ONE), *asked, read(BAD), *asked, read(TWO.ljust(1501)), *asked, read(TWO), *asked),
                         [[0], *one, [5, 1, 22], *one, [-8], *one, [0], *two])

    def test_the_list_handed_in_stays_as_it_is(self):
        calls = joined(ALL)
        before = list(calls)
        answers(calls)
        self.assertEqual(calls, before)

    def test_nothing_is_kept_from_one_time_to_the_next(self):
        calls = joined([FORM, BARS, same(TWO), place(0, 1)] + ALL)
        first = answers(calls)
        copy = list(first)
        first.append(5)
        self.assertEqual(answers(calls), copy)
        self.assertEqual(answers(FORM), [1, -1])
        self.assertEqual(answers(BARS), [1, -1])

    def test_only_whole_numbers_are_given_back(self):
        given = answers(joined(ALL))
        self.assertIs(type(given), list)
        self.assertEqual({type(number) for number in given}, {int})

    def test_nothing_is_printed(self):
        out = io.StringIO()
        with contextlib.redirect_stdout(out), contextlib.redirect_stderr(out):
            answers(joined(ALL))
        self.assertEqual(out.getvalue(), "")


class NotChanged(list):
    """A list that doesn't let itself be changed, not for a while either."""

    def refuse(self, *given, **named):
        raise AssertionError("what was handed in is changed")

    append = extend = insert = pop = remove = clear = sort = reverse = refuse
    __setitem__ = __delitem__ = __iadd__ = __imul__ = refuse


class NotForAWhile(unittest.TestCase):
    def test_no_change_is_made(self):
        calls = joined(ALL)
        self.assertEqual(answers(NotChanged(calls)), answers(calls))
