"""How calls are handed to piecetook.makings.answers, and how it gives the answers back."""

import contextlib
import io
import unittest

from piecetook.makings import answers
from tests.calls import LARGEST, all_out, asked, begin, forget, in_one_list, runs, tell, took
from tests.model import expected


class Unchanging(list):
    """A list that may be read only, so that a change for a while is seen too."""

    def refuse(self, *given, **named):
        raise AssertionError("what was handed in is changed")

    append = clear = extend = insert = pop = remove = reverse = sort = refuse
    __setitem__ = __delitem__ = __iadd__ = __imul__ = refuse


SEVERAL = in_one_list([
    begin(), tell(1, 2, 3, [4] * 8), tell(8), tell(2, uses=[]), took(1), forget(1), forget(1), forget(9),
    tell(1, 4, 6, [0, 1, 0, 0, 0, 0, 1, 0]), tell(6, 5, 2), took(1), runs(1, 30), all_out(1, 30), runs(1, 0),
    all_out(8, 1), tell(6, 1, 2, [0, 0, 0, 0, 0, 0, 1, 0]), took(1), begin(), forget(2), took(6),
])
ANSWERED = [
    1, 0, 1, 0, 1, -22, 1, -22, 1, -61, 1, 0, 1, -2, 1, -22,
    1, 0, 1, 0, 3, 0, 32, 15, 7, 2, 1, 10, 1, 6, 2, 1, 3, 0, 64, 1, 1, -22,
    1, -22, 1, 0, 1, -33, 1, 0, 1, -2, 1, -2,
]

# Each kind uses every kind, and the numbers are so great that they just can be.
FULL_ROUND = [tell(k, 993 + k, 1000000 - k, [124 - (k + kind) % 3 for kind in range(8)]) for k in range(8)]
SMALL_ROUND = [tell(k, 20 + k, 10 + k, [1 + (k + kind) % 2 for kind in range(8)]) for k in range(8)]


class Layout(unittest.TestCase):
    def test_one_call(self):
        self.assertEqual(answers([0]), [1, 0])

    def test_written_out(self):
        told = [0, 1, 3, 2, 50, 8, 0, 1, 2, 3, 4, 5, 6, 7, 2, 3, 2, 3, 2, 8]
        self.assertEqual(answers(told), [1, 0, 1, 0, 1, 0, 1, -2, 1, -22])

    def test_written_out_to_the_last_call(self):
        told = [0, 1, 0, 10, 3, 8, 0, 1, 0, 0, 0, 0, 0, 0, 1, 1, 5, 20, 8, 2, 0, 0, 0, 0, 0, 0, 0]
        self.assertEqual(answers(told + [3, 0]), [1, 0, 1, 0, 1, 0, 3, 0, 35, 48])
        self.assertEqual(answers(told + [4, 0, 5]), [1, 0, 1, 0, 1, 0, 7, 2, 0, 25, 48, 1, 5, 48])
        self.assertEqual(answers(told + [5, 0, 5]), [1, 0, 1, 0, 1, 0, 3, 0, 175, 48])

    def test_several_calls(self):
        self.assertEqual(answers(SEVERAL), ANSWERED)

    def test_row_of_every_length_is_passed_whole(self):
        for length in range(21):
            for number in (0, 1, 2, 3, LARGEST):
                with self.subTest(length=length, number=number):
                    numbers = in_one_list([begin(), tell(4), tell(5, uses=[number] * length), forget(4), forget(4)])
                    refused = length != 8 or number > 1000
                    self.assertEqual(answers(numbers), [1, 0, 1, 0, 1, -22 if refused else 0, 1, 0, 1, -2])

    def test_kinds_are_whole_numbers_in_a_list(self):
        given = answers(SEVERAL)
        self.assertIs(type(given), list)
        for number in given:
            self.assertIs(type(number), int)


class Longest(unittest.TestCase):
    def test_400_calls_with_the_longest_rows(self):
        numbers = in_one_list([begin()] + [tell(0, uses=[LARGEST] * 20)] * 399)
        self.assertEqual(answers(numbers), [1, 0] + [1, -22] * 399)

    def test_400_calls_that_tell_and_forget(self):
        calls = [begin()]
        for turn in range(133):
            calls.extend([tell(turn % 8, uses=[turn] * 8), forget(turn % 8), forget(turn % 8)])
        self.assertEqual(len(calls), 400)
        self.assertEqual(answers(in_one_list(calls)), [1, 0] + [1, 0, 1, 0, 1, -2] * 133)

    def test_400_times_begin(self):
        self.assertEqual(answers([0] * 400), [1, 0] * 400)

    def test_400_calls_with_eight_kinds_that_all_use_one_another(self):
        for told in (FULL_ROUND, SMALL_ROUND):
            calls = [begin()] + told
            for turn in range(391):
                k = turn % 8
                calls.append((took(k), runs(k, 1 + turn * 2557), all_out(k, 1000000 - turn))[turn % 3])
            self.assertEqual(len(calls), 400)
            given = asked(*calls)
            self.assertEqual(given, expected(calls))
            self.assertNotIn([-33], given)

    def test_400_calls_that_tell_anew_and_ask(self):
        calls = [begin()] + SMALL_ROUND
        for turn in range(97):
            k = turn % 8
            calls.extend([tell(k, 20 + turn % 7, turn, [1] * 8), took(k), runs((k + 3) % 8, 5), all_out(k, turn + 1)])
        calls.extend([took(0), runs(7), all_out(4)])
        self.assertEqual(len(calls), 400)
        given = asked(*calls)
        self.assertEqual(given, expected(calls))
        self.assertEqual(min(given), [0])


class Nothing(unittest.TestCase):
    def test_is_changed(self):
        handed = list(SEVERAL)
        answers(handed)
        self.assertEqual(handed, SEVERAL)

    def test_is_changed_for_a_while(self):
        self.assertEqual(answers(Unchanging(SEVERAL)), ANSWERED)

    def test_is_changed_for_a_while_by_the_longest_row(self):
        told = in_one_list([begin()] + SMALL_ROUND + [tell(9, uses=[1] * 20), took(3), runs(3), all_out(3)])
        self.assertEqual(answers(Unchanging(told)), answers(told))

    def test_is_kept_from_one_time_to_the_next(self):
        told = in_one_list([begin()] + [tell(k) for k in range(8)])
        questions = in_one_list([begin()] + [call for k in range(8) for call in (took(k), runs(k), forget(k))])
        first = answers(questions)
        self.assertEqual(answers(told), [1, 0] * 9)
        self.assertEqual(answers(questions), first)
        self.assertEqual(first, [1, 0] + [1, -2] * 24)

    def test_is_changed_by_asking(self):
        questions = [call for k in range(9) for n in (0, 1, 1000000)
                     for call in (took(k), runs(k, n), all_out(k, n))]
        not_told = [tell(3, 9, 9, [1, 1, 0, 1, 0, 0, 0, 0]), tell(0, 5, 1)]
        cannot_be = [tell(3, 9, 9, [1, 0, 0, 9, 0, 0, 0, 0]), tell(0, 5, 1)]
        for told in ([], not_told, cannot_be, SMALL_ROUND, FULL_ROUND):
            first = asked(begin(), *told, *questions)[1 + len(told):]
            both = asked(begin(), *told, *questions, *reversed(questions))[1 + len(told):]
            self.assertEqual(both, first + first[::-1])
            left = asked(begin(), *told, *questions, *[forget(k) for k in range(8)])[-8:]
            self.assertEqual(left, asked(begin(), *told, *[forget(k) for k in range(8)])[-8:])

    def test_second_time_answers_like_the_first(self):
        first = answers(SEVERAL)
        first_copy = list(first)
        first.clear()
        self.assertEqual(answers(SEVERAL), first_copy)

    def test_is_printed(self):
        printed = io.StringIO()
        with contextlib.redirect_stdout(printed), contextlib.redirect_stderr(printed):
            answers(SEVERAL)
        self.assertEqual(printed.getvalue(), "")


if __name__ == "__main__":
    unittest.main()
