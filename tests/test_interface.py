"""The interface: the list that is handed in, and the list that is given back."""

import contextlib
import io
import unittest

from sixtymines.board import answers
from tests.lines import (
    ALL, TELL, about, begin, best, bits, certain, count, each, flat, mark, play, sight, solved, uncover,
)

UNSEEN = sight({})
# Crowded with numbers, so that no walk over a board is much longer.
CROWDED = [
    9, 9, 9, 9, 9, 9,
    9, 4, 3, 3, 3, 9,
    9, 9, 9, 9, 9, 2,
    9, 3, 9, 4, 9, 9,
    9, 3, 9, 9, 9, 3,
    9, 9, 9, 9, 9, 9,
    9, 4, 3, 3, 9, 9,
    9, 9, 9, 9, 9, 2,
    9, 4, 3, 3, 3, 9,
    9, 9, 9, 9, 9, 9,
]
# All ten kinds, each answered and refused.
ALL_TEN = (
    begin(bits(9)), uncover(8), mark(9), count(1, UNSEEN), about(8), TELL, each(20, CROWDED), begin(bits(9)),
    mark(7), uncover(8), certain(1, sight({0: 1})), about(8), TELL, best(2, sight({0: 1})), solved(bits(0), 1),
    solved(bits(0), 0), solved(0, 60), solved(2 ** 60, 0), uncover(1), mark(60), about(-1), begin(2 ** 60),
    count(61, UNSEEN), each(-1, UNSEEN), certain(0, sight({1: 11})), best(1, sight({1: 255})),
    count(1, [0] * 60), each(1, [0] * 60), certain(1, [0] * 60), best(1, [0] * 60), best(0, [0] * 60), TELL,
)


class InterfaceTest(unittest.TestCase):
    def test_a_lines_beginning_without_begin(self):
        self.assertEqual(answers([4]), [3, 0, 0, 0])
        self.assertEqual(answers([1, 0]), [1, 60])
        self.assertEqual(answers([2, 5, 4]), [1, 1, 3, 0, 0, 32])
        self.assertEqual(answers([3, 5]), [1, -2])
        for c in range(60):
            self.assertEqual(answers([1, c, 4]), answers([0, 0, 1, c, 4])[2:])

    def test_how_many_numbers_each_call_answers(self):
        self.assertEqual(
            answers([0, 512, 1, 8, 4, 2, 7, 2, 8, 1, -1, 3, 8, 4, 3, 8, 0, 2 ** 60, 0, 7]),
            [1, 1, 1, 1, 3, 0, 256, 0, 1, 1, 1, -2, 1, -8, 1, -1, 3, 2, 768, 128, 1, -9, 1, -8, 1, 3],
        )

    def test_numbers_that_look_like_calls(self):
        self.assertEqual(answers([0, 4, 1, 3, 2, 3, 3, 3, 4]), [1, 1, 1, 1, 1, -2, 1, -2, 3, 0, 8, 0])

    def test_four_hundred_calls(self):
        self.assertEqual(answers([4] * 400), [3, 0, 0, 0] * 400)
        self.assertEqual(answers([0, ALL] * 400), [1, 60] * 400)
        self.assertEqual(answers([0, 0, 1, 30] * 200), [1, 0, 1, 60] * 200)
        self.assertEqual(answers([2, 59] * 400), [1, 1, 1, 0] * 200)
        self.assertEqual(answers([1, 59] * 400), [1, 60] + [1, -9] * 399)

    def test_all_ten_kinds_in_one_list(self):
        told = play(*ALL_TEN)
        self.assertEqual([len(answer) for answer in told],
                         [1, 1, 1, 1, 1, 3, 61, 1, 1, 1, 3, 1, 3] + [1] * 18 + [3])
        self.assertEqual(told[:6], [[1], [1], [1], [60], [58], [1, ALL ^ bits(9), bits(9)]])
        self.assertEqual(told[7:], [
            [1], [1], [1], [56, ALL ^ bits(0, 1, 6, 7), 0], [-1], [2, bits(8, 9), bits(7)], [2], [1], [-1], [-8], [-8],
            [-9], [-8], [-8], [-8], [-8], [-8], [-8], [-8], [0], [-1], [-1], [-1], [-2], [2, bits(8, 9), bits(7)],
        ])

    def test_a_row_that_looks_like_calls(self):
        seen = [4, 5, 6, 7, 8, 9] * 10
        self.assertEqual(answers([5, 4, 60] + seen + [4]), [1, 0, 3, 0, 0, 0])
        self.assertEqual(answers([5, 5, 60] + [9] * 60 + [9, 0, 5]), [1, 5461512, 1, 0])
        self.assertEqual(answers([4, 9, 9, 9, 7, 60, 60] + [10] * 60 + [4]),
                         [3, 0, 0, 0, 1, -1, 3, 0, 0, 0, 3, 0, 0, 0])

    def test_four_hundred_calls_of_solved(self):
        mines = bits(3, 7, 19, 21, 23, 26, 30, 33, 34, 43, 46, 51, 55, 58)
        self.assertEqual(answers([9, mines, 11] * 400), [1, 14] * 400)

    def test_sixteen_thousand_numbers_in_four_hundred_calls(self):
        for ask in (count, each, certain, best):
            calls = [ask(20, CROWDED)] * 250 + [TELL, mark(5), uncover(60)] * 50
            self.assertEqual((len(calls), len(flat(calls))), (400, 16000))
            told = play(*calls)
            self.assertEqual(told[:250], [told[0]] * 250)
            self.assertEqual(told[250:], [[0, 0, 0], [1], [-8], [0, 0, 32], [0], [-8]] * 25)

    def test_what_is_handed_in_stays(self):
        calls = flat(ALL_TEN)
        before = list(calls)
        answers(calls)
        self.assertEqual(calls, before)

    def test_what_is_handed_in_is_not_changed_for_a_while_either(self):
        class Untouched(list):
            def refuse(self, *given):
                raise AssertionError("the list that was handed in was changed")

            append = extend = insert = pop = remove = clear = reverse = sort = refuse
            __setitem__ = __delitem__ = __iadd__ = __imul__ = refuse

        calls = flat(ALL_TEN)
        self.assertEqual(answers(Untouched(calls)), answers(calls))

    def test_the_same_list_twice(self):
        for calls in ([4], [2, 3, 4], [1, 0, 4], flat([begin(bits(9)), uncover(9), TELL, mark(1)]),
                      flat(ALL_TEN)):
            first = answers(calls)
            self.assertEqual(answers(calls), first)

    def test_nothing_is_kept_from_another_list(self):
        answers([0, 1, 2, 5, 1, 0])
        self.assertEqual(answers([4]), [3, 0, 0, 0])
        self.assertEqual(answers([1, 0]), [1, 60])

    def test_nothing_is_kept_from_what_was_seen_before(self):
        calls = [ask(m, seen) for seen in (UNSEEN, CROWDED, [0] * 60, sight({0: 11})) for m in (0, 20, -1)
                 for ask in (count, each, certain, best)]
        alone = [play(call)[0] for call in calls]
        self.assertEqual(play(*calls), alone)
        self.assertEqual(play(*reversed(calls)), alone[::-1])

    def test_a_list_given_back_is_the_callers_own(self):
        first = answers([4])
        first.append(7)
        first[0] = 9
        self.assertEqual(answers([4]), [3, 0, 0, 0])

    def test_whole_numbers_alone(self):
        answered = answers(flat([
            begin(bits(9)), mark(9), mark(8), mark(8), uncover(8), uncover(8), about(8), about(7), TELL,
            begin(2 ** 60), uncover(60), begin(0), uncover(0), TELL, mark(0), begin(1), uncover(0), TELL, *ALL_TEN,
        ]))
        self.assertIs(type(answered), list)
        self.assertEqual([number for number in answered if type(number) is not int], [])

    def test_nothing_is_printed(self):
        out, err = io.StringIO(), io.StringIO()
        with contextlib.redirect_stdout(out), contextlib.redirect_stderr(err):
            play(*ALL_TEN)
        self.assertEqual(out.getvalue() + err.getvalue(), "")
