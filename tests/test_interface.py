"""How calls are handed to piecetook.makings.answers, and how it gives the answers back."""

import contextlib
import io
import unittest

from piecetook.makings import answers
from tests.calls import LARGEST, begin, forget, in_one_list, tell


class Unchanging(list):
    """A list that may be read only, so that a change for a while is seen too."""

    def refuse(self, *given, **named):
        raise AssertionError("what was handed in is changed")

    append = clear = extend = insert = pop = remove = reverse = sort = refuse
    __setitem__ = __delitem__ = __iadd__ = __imul__ = refuse


SEVERAL = in_one_list([
    begin(), tell(1, 2, 3, [4] * 8), tell(8), tell(2, uses=[]), forget(1), forget(1), forget(9), begin(), forget(2),
])
ANSWERED = [1, 0, 1, 0, 1, -22, 1, -22, 1, 0, 1, -2, 1, -22, 1, 0, 1, -2]


class Layout(unittest.TestCase):
    def test_one_call(self):
        self.assertEqual(answers([0]), [1, 0])

    def test_written_out(self):
        told = [0, 1, 3, 2, 50, 8, 0, 1, 2, 3, 4, 5, 6, 7, 2, 3, 2, 3, 2, 8]
        self.assertEqual(answers(told), [1, 0, 1, 0, 1, 0, 1, -2, 1, -22])

    def test_several_calls(self):
        self.assertEqual(answers(SEVERAL), ANSWERED)

    def test_row_of_every_length_is_passed_whole(self):
        for length in range(21):
            for number in (0, 1, 2, 3, LARGEST):
                with self.subTest(length=length, number=number):
                    numbers = in_one_list([begin(), tell(4), tell(5, uses=[number] * length), forget(4), forget(4)])
                    refused = length != 8 or number > 1000
                    self.assertEqual(answers(numbers), [1, 0, 1, 0, 1, -22 if refused else 0, 1, 0, 1, -2])

    def test_kinds_are_whole_numbers_in_a_list(self):
        given = answers(SEVERAL)
        self.assertIs(type(given), list)
        for number in given:
            self.assertIs(type(number), int)


class Longest(unittest.TestCase):
    def test_400_calls_with_the_longest_rows(self):
        numbers = in_one_list([begin()] + [tell(0, uses=[LARGEST] * 20)] * 399)
        self.assertEqual(answers(numbers), [1, 0] + [1, -22] * 399)

    def test_400_calls_that_tell_and_forget(self):
        calls = [begin()]
        for turn in range(133):
            calls.extend([tell(turn % 8, uses=[turn] * 8), forget(turn % 8), forget(turn % 8)])
        self.assertEqual(len(calls), 400)
        self.assertEqual(answers(in_one_list(calls)), [1, 0] + [1, 0, 1, 0, 1, -2] * 133)

    def test_400_times_begin(self):
        self.assertEqual(answers([0] * 400), [1, 0] * 400)


class Nothing(unittest.TestCase):
    def test_is_changed(self):
        handed = list(SEVERAL)
        answers(handed)
        self.assertEqual(handed, SEVERAL)

    def test_is_changed_for_a_while(self):
        self.assertEqual(answers(Unchanging(SEVERAL)), ANSWERED)

    def test_is_kept_from_one_time_to_the_next(self):
        told = in_one_list([begin()] + [tell(k) for k in range(8)])
        asked = in_one_list([begin()] + [forget(k) for k in range(8)])
        first = answers(asked)
        self.assertEqual(answers(told), [1, 0] * 9)
        self.assertEqual(answers(asked), first)
        self.assertEqual(first, [1, 0] + [1, -2] * 8)

    def test_second_time_answers_like_the_first(self):
        first = answers(SEVERAL)
        first_copy = list(first)
        first.clear()
        self.assertEqual(answers(SEVERAL), first_copy)

    def test_is_printed(self):
        printed = io.StringIO()
        with contextlib.redirect_stdout(printed), contextlib.redirect_stderr(printed):
            answers(SEVERAL)
        self.assertEqual(printed.getvalue(), "")


if __name__ == "__main__":
    unittest.main()
