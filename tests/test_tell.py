"""Point 6: tell."""

import unittest

from tests.lines import ALL, TELL, about, begin, bits, mark, play, uncover


class TellTest(unittest.TestCase):
    def test_going_on(self):
        self.assertEqual(play(begin(bits(1, 59)), TELL, uncover(0), TELL, mark(59), TELL, mark(7), TELL),
                         [[2], [0, 0, 0], [1], [0, 1, 0], [1], [0, 1, bits(59)], [1], [0, 1, bits(7, 59)]])

    def test_won(self):
        self.assertEqual(play(begin(bits(1)), mark(1), uncover(0), uncover(59), TELL),
                         [[1], [1], [1], [58], [1, ALL ^ 2, 2]])

    def test_lost(self):
        self.assertEqual(play(begin(bits(1, 40)), uncover(0), mark(59), uncover(40), TELL),
                         [[2], [1], [1], [-1], [2, bits(0, 40), bits(59)]])

    def test_lost_by_about(self):
        self.assertEqual(play(begin(bits(1)), uncover(0), mark(6), about(0), TELL),
                         [[1], [1], [1], [-1], [2, 3, bits(6)]])

    def test_telling_changes_nothing(self):
        self.assertEqual(play(begin(bits(9)), TELL, TELL, uncover(8), TELL, TELL),
                         [[1], [0, 0, 0], [0, 0, 0], [1], [0, bits(8), 0], [0, bits(8), 0]])
