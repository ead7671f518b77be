"""Point 3: open."""

import unittest

from tests.lines import ALL, TELL, about, begin, bits, last, mark, near, play, uncover


class NothingHappensTest(unittest.TestCase):
    def test_an_open_square(self):
        self.assertEqual(play(begin(bits(9)), uncover(8), uncover(8), TELL), [[1], [1], [0], [0, bits(8), 0]])

    def test_an_open_square_with_no_mine_about_it_does_not_spread_again(self):
        first = (begin(bits(59)), mark(1), uncover(0), mark(1))
        self.assertEqual(play(*first, uncover(0), TELL),
                         [[1], [1], [58], [0], [0], [0, ALL ^ bits(1, 59), 0]])

    def test_a_marked_square(self):
        self.assertEqual(play(begin(bits(9)), mark(8), uncover(8), TELL), [[1], [1], [0], [0, 0, bits(8)]])

    def test_a_marked_mine(self):
        self.assertEqual(play(begin(bits(9)), mark(9), uncover(9), TELL), [[1], [1], [0], [0, 0, bits(9)]])

    def test_a_mark_that_was_taken_does_not_hinder(self):
        self.assertEqual(play(begin(bits(9)), mark(8), mark(8), uncover(8)), [[1], [1], [0], [1]])
        self.assertEqual(play(begin(bits(9)), mark(9), mark(9), uncover(9)), [[1], [1], [0], [-1]])


class MineTest(unittest.TestCase):
    def test_every_mine(self):
        for c in range(60):
            self.assertEqual(play(begin(bits(c)), uncover(c), TELL), [[1], [-1], [2, bits(c), 0]], c)

    def test_what_was_open_and_marked_stays(self):
        self.assertEqual(last(begin(bits(8, 9)), uncover(2), mark(8), uncover(9), TELL), [2, bits(2, 9), bits(8)])

    def test_the_last_square_being_a_mine_is_no_win(self):
        self.assertEqual(play(begin(ALL ^ 1), uncover(1), TELL), [[59], [-1], [2, 2, 0]])

    def test_all_mines(self):
        self.assertEqual(play(begin(ALL), TELL, uncover(59), TELL), [[60], [0, 0, 0], [-1], [2, bits(59), 0]])


class SpreadTest(unittest.TestCase):
    def test_one_square_alone_where_a_mine_lies_about_it(self):
        for c in range(60):
            for mine in near(c):
                other = 0 if c > 30 else 59
                self.assertEqual(play(begin(bits(mine, other)), uncover(c), TELL)[1:], [[1], [0, bits(c), 0]],
                                 (c, mine))

    def test_just_the_squares_about_one_with_none(self):
        # Mines everywhere but on c and about it: the spread is c with all that lies about it.
        for c in range(60):
            room = bits(c, *near(c))
            self.assertEqual(play(begin(ALL ^ room), uncover(c), TELL)[1:],
                             [[1 + len(near(c))], [1, room, 0]], c)

    def test_how_many_lie_about_corners_edges_and_the_middle(self):
        for c, many in ((0, 4), (5, 4), (54, 4), (59, 4), (3, 6), (30, 6), (35, 6), (56, 6), (27, 9)):
            self.assertEqual(last(begin(ALL ^ bits(c, *near(c))), uncover(c)), [many], c)

    def test_not_round_a_rows_end(self):
        # A column of mines beside the right edge: the edge's squares see them, those of the left edge don't.
        wall = bits(*range(4, 60, 6))
        self.assertEqual(play(begin(wall), uncover(0), TELL),
                         [[10], [40], [0, bits(*[c for c in range(60) if c % 6 < 4]), 0]])
        self.assertEqual(last(begin(wall), uncover(5)), [1])
        self.assertEqual(play(begin(bits(5)), uncover(12), TELL)[1:], [[59], [1, ALL ^ bits(5), 0]])
        # 0 lies behind squares that see the mine at 6; 5, at the other end of the row, does not see it.
        self.assertEqual(last(begin(bits(6)), uncover(5)), [58])

    def test_over_the_whole_board_from_every_square(self):
        for c in range(60):
            self.assertEqual(play(uncover(c), TELL), [[60], [1, ALL, 0]])

    def test_up_to_the_numbers_and_no_further(self):
        # A row of mines across: above it two rows with none about them and one that sees the mines.
        wall = bits(*range(18, 24))
        self.assertEqual(play(begin(wall), uncover(0), TELL), [[6], [18], [0, bits(*range(18)), 0]])
        self.assertEqual(play(begin(wall), uncover(59), TELL), [[6], [36], [0, bits(*range(24, 60)), 0]])
        self.assertEqual(play(begin(wall), uncover(12), TELL), [[6], [1], [0, bits(12), 0]])

    def test_marked_squares_are_left_out(self):
        self.assertEqual(play(mark(7), uncover(0), TELL), [[1], [59], [0, ALL ^ bits(7), bits(7)]])

    def test_a_row_of_marks_holds_the_spread(self):
        marks = [mark(c) for c in range(12, 18)]
        self.assertEqual(play(*marks, uncover(0), TELL)[6:], [[12], [0, bits(*range(12)), bits(*range(12, 18))]])
        self.assertEqual(play(*marks, uncover(0), uncover(59), TELL)[7:],
                         [[42], [0, ALL ^ bits(*range(12, 18)), bits(*range(12, 18))]])

    def test_what_is_open_already_is_not_counted(self):
        self.assertEqual(play(begin(bits(59)), uncover(52), uncover(0), TELL),
                         [[1], [1], [58], [1, ALL ^ bits(59), 0]])

    def test_no_spread_through_what_was_open_already(self):
        # 1 was marked when 0 spread; behind the row of marks 12 to 17 the rest of the board is closed.
        first = [mark(c) for c in (1, *range(12, 18))] + [uncover(0), mark(1), mark(12)]
        self.assertEqual(last(*first, TELL), [0, bits(*range(12)) ^ bits(1), bits(*range(13, 18))])
        self.assertEqual(play(*first, uncover(12), TELL)[-2:],
                         [[43], [0, ALL ^ bits(1, *range(13, 18)), bits(*range(13, 18))]])


class WinTest(unittest.TestCase):
    def test_won_with_the_last_square(self):
        mines = ALL ^ bits(0, 59)
        self.assertEqual(play(begin(mines), uncover(59), TELL, uncover(0), TELL),
                         [[58], [1], [0, bits(59), 0], [1], [1, bits(0, 59), 0]])

    def test_not_won_while_a_marked_square_is_closed(self):
        self.assertEqual(play(mark(59), uncover(0), TELL, uncover(59), TELL, mark(59), uncover(59), TELL),
                         [[1], [59], [0, ALL ^ bits(59), bits(59)], [0], [0, ALL ^ bits(59), bits(59)],
                          [0], [1], [1, ALL, 0]])

    def test_won_without_marks_and_with_wrong_ones(self):
        self.assertEqual(last(begin(bits(0, 1)), mark(0), uncover(59), uncover(6), TELL),
                         [1, ALL ^ 3, 1])
        self.assertEqual(last(begin(bits(0)), uncover(59), TELL), [1, ALL ^ 1, 0])

    def test_marking_all_mines_is_no_win(self):
        self.assertEqual(last(begin(bits(0, 59)), mark(0), mark(59), TELL), [0, 0, bits(0, 59)])

    def test_nothing_opened_is_no_win(self):
        # Under all sixty lie mines: all but the mines is open from the start.
        self.assertEqual(play(begin(ALL), mark(3), uncover(3), about(3), TELL),
                         [[60], [1], [0], [-2], [0, 0, bits(3)]])
