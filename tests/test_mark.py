"""Point 4: mark."""

import unittest

from tests.lines import ALL, TELL, begin, bits, last, mark, play, uncover


class MarkTest(unittest.TestCase):
    def test_put_and_taken_on_every_square(self):
        for c in range(60):
            self.assertEqual(play(begin(bits(9)), mark(c), TELL, mark(c), TELL, mark(c), TELL),
                             [[1], [1], [0, 0, bits(c)], [0], [0, 0, 0], [1], [0, 0, bits(c)]], c)

    def test_one_mark_leaves_the_others(self):
        self.assertEqual(last(mark(3), mark(4), mark(59), mark(4), TELL), [0, 0, bits(3, 59)])

    def test_all_sixty(self):
        marks = [mark(c) for c in range(60)]
        self.assertEqual(last(*marks, TELL), [0, 0, ALL])
        self.assertEqual(last(*marks, *marks, TELL), [0, 0, 0])

    def test_an_open_square_is_refused(self):
        before = (begin(bits(9)), uncover(8), mark(30))
        self.assertEqual(play(*before, mark(8), TELL)[-2:], [[-2], [0, bits(8), bits(30)]])

    def test_an_open_square_with_no_mine_about_it_is_refused(self):
        self.assertEqual(last(begin(bits(9)), mark(30), uncover(59), mark(58)), [-2])
        self.assertEqual(last(begin(bits(9)), mark(30), uncover(59), mark(30)), [0])
