"""Point 2: what open, mark and about all refuse."""

import unittest

from tests.lines import ALL, HIGHEST, LOWEST, TELL, about, begin, bits, last, mark, play, uncover

NO_SQUARES = (LOWEST, LOWEST + 1, -61, -60, -59, -2, -1, 60, 61, 63, 64, 120, HIGHEST - 1, HIGHEST)
MOVES = (uncover, mark, about)
WON = (begin(bits(59)), mark(59), uncover(0))
LOST = (begin(bits(9)), mark(30), uncover(8), uncover(9))


class RefusalsTest(unittest.TestCase):
    def test_no_square(self):
        for move in MOVES:
            for c in NO_SQUARES:
                self.assertEqual(last(begin(bits(9)), uncover(8), move(c)), [-8], (move, c))

    def test_both_ends_of_the_board_are_squares(self):
        for c in (0, 59):
            self.assertEqual(play(begin(bits(30)), mark(c), mark(c), uncover(c), about(c)),
                             [[1], [1], [0], [59], [-9]], c)
            self.assertEqual(last(about(c)), [-2])

    def test_no_square_leaves_the_game_as_it_was(self):
        before = (begin(bits(9)), uncover(8), mark(30))
        for move in MOVES:
            for c in NO_SQUARES:
                self.assertEqual(last(*before, move(c), TELL), [0, bits(8), bits(30)], (move, c))

    def test_the_game_is_won(self):
        self.assertEqual(last(*WON, TELL), [1, ALL ^ bits(59), bits(59)])
        for move in MOVES:
            for c in (0, 1, 53, 58, 59):
                self.assertEqual(last(*WON, move(c)), [-9], (move, c))
                self.assertEqual(last(*WON, move(c), TELL), [1, ALL ^ bits(59), bits(59)], (move, c))

    def test_the_game_is_lost(self):
        self.assertEqual(last(*LOST, TELL), [2, bits(8, 9), bits(30)])
        for move in MOVES:
            for c in (0, 8, 9, 30, 59):
                self.assertEqual(last(*LOST, move(c)), [-9], (move, c))
                self.assertEqual(last(*LOST, move(c), TELL), [2, bits(8, 9), bits(30)], (move, c))

    def test_lost_by_about(self):
        lost = (begin(bits(9)), uncover(8), mark(7), about(8))
        for move in MOVES:
            self.assertEqual(last(*lost, move(20)), [-9])
            self.assertEqual(last(*lost, move(-1)), [-8])

    def test_of_both_wrong_it_is_the_square(self):
        for move in MOVES:
            for c in NO_SQUARES:
                self.assertEqual(last(*WON, move(c)), [-8], (move, c))
                self.assertEqual(last(*LOST, move(c)), [-8], (move, c))
