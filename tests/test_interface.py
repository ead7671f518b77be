"""The interface: the list that is handed in, and the list that is given back."""

import contextlib
import io
import unittest

from sixtymines.board import answers
from tests.lines import ALL, TELL, about, begin, bits, flat, mark, play, uncover


class InterfaceTest(unittest.TestCase):
    def test_a_lines_beginning_without_begin(self):
        self.assertEqual(answers([4]), [3, 0, 0, 0])
        self.assertEqual(answers([1, 0]), [1, 60])
        self.assertEqual(answers([2, 5, 4]), [1, 1, 3, 0, 0, 32])
        self.assertEqual(answers([3, 5]), [1, -2])
        for c in range(60):
            self.assertEqual(answers([1, c, 4]), answers([0, 0, 1, c, 4])[2:])

    def test_how_many_numbers_each_call_answers(self):
        self.assertEqual(
            answers([0, 512, 1, 8, 4, 2, 7, 2, 8, 1, -1, 3, 8, 4, 3, 8, 0, 2 ** 60, 0, 7]),
            [1, 1, 1, 1, 3, 0, 256, 0, 1, 1, 1, -2, 1, -8, 1, -1, 3, 2, 768, 128, 1, -9, 1, -8, 1, 3],
        )

    def test_numbers_that_look_like_calls(self):
        self.assertEqual(answers([0, 4, 1, 3, 2, 3, 3, 3, 4]), [1, 1, 1, 1, 1, -2, 1, -2, 3, 0, 8, 0])

    def test_four_hundred_calls(self):
        self.assertEqual(answers([4] * 400), [3, 0, 0, 0] * 400)
        self.assertEqual(answers([0, ALL] * 400), [1, 60] * 400)
        self.assertEqual(answers([0, 0, 1, 30] * 200), [1, 0, 1, 60] * 200)
        self.assertEqual(answers([2, 59] * 400), [1, 1, 1, 0] * 200)
        self.assertEqual(answers([1, 59] * 400), [1, 60] + [1, -9] * 399)

    def test_what_is_handed_in_stays(self):
        calls = flat([begin(bits(9)), uncover(8), mark(9), about(8), TELL, mark(77)])
        before = list(calls)
        answers(calls)
        self.assertEqual(calls, before)

    def test_what_is_handed_in_is_not_changed_for_a_while_either(self):
        class Untouched(list):
            def refuse(self, *given):
                raise AssertionError("the list that was handed in was changed")

            append = extend = insert = pop = remove = clear = reverse = sort = refuse
            __setitem__ = __delitem__ = __iadd__ = __imul__ = refuse

        calls = flat([begin(bits(9)), uncover(8), mark(9), about(8), TELL, mark(77)])
        self.assertEqual(answers(Untouched(calls)), answers(calls))

    def test_the_same_list_twice(self):
        for calls in ([4], [2, 3, 4], [1, 0, 4], flat([begin(bits(9)), uncover(9), TELL, mark(1)])):
            first = answers(calls)
            self.assertEqual(answers(calls), first)

    def test_nothing_is_kept_from_another_list(self):
        answers([0, 1, 2, 5, 1, 0])
        self.assertEqual(answers([4]), [3, 0, 0, 0])
        self.assertEqual(answers([1, 0]), [1, 60])

    def test_a_list_given_back_is_the_callers_own(self):
        first = answers([4])
        first.append(7)
        first[0] = 9
        self.assertEqual(answers([4]), [3, 0, 0, 0])

    def test_whole_numbers_alone(self):
        answered = answers(flat([
            begin(bits(9)), mark(9), mark(8), mark(8), uncover(8), uncover(8), about(8), about(7), TELL,
            begin(2 ** 60), uncover(60), begin(0), uncover(0), TELL, mark(0), begin(1), uncover(0), TELL,
        ]))
        self.assertIs(type(answered), list)
        self.assertEqual([number for number in answered if type(number) is not int], [])

    def test_nothing_is_printed(self):
        out, err = io.StringIO(), io.StringIO()
        with contextlib.redirect_stdout(out), contextlib.redirect_stderr(err):
            play(begin(bits(9)), uncover(8), mark(9), about(8), TELL, mark(60), begin(2 ** 60))
        self.assertEqual(out.getvalue() + err.getvalue(), "")
