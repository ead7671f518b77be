"""Point 5: about."""

import unittest

from tests.lines import ALL, TELL, about, begin, bits, last, mark, play, uncover

# Mines at 0 and 2, seen from 7; a wall below keeps what is opened small.
WALL = bits(*range(24, 30))


class AboutRefusedTest(unittest.TestCase):
    def test_not_open(self):
        for c in (0, 7, 9, 59):
            self.assertEqual(play(begin(bits(9)), about(c), TELL)[1:], [[-2], [0, 0, 0]], c)

    def test_not_open_with_as_many_marks_as_mines(self):
        self.assertEqual(play(begin(bits(9)), mark(9), about(8), TELL)[2:], [[-2], [0, 0, bits(9)]])

    def test_marked(self):
        self.assertEqual(last(begin(bits(9)), mark(30), about(30)), [-2])

    def test_too_few_marks(self):
        before = (begin(bits(0, 2)), uncover(7))
        self.assertEqual(play(*before, about(7), TELL)[2:], [[-2], [0, bits(7), 0]])
        self.assertEqual(play(*before, mark(0), about(7), TELL)[3:], [[-2], [0, bits(7), 1]])

    def test_too_many_marks(self):
        before = (begin(bits(0, 2)), uncover(7), mark(0), mark(2), mark(1))
        self.assertEqual(play(*before, about(7), TELL)[5:], [[-2], [0, bits(7), 7]])

    def test_a_mark_about_a_square_with_no_mine_about_it(self):
        self.assertEqual(last(begin(bits(59)), mark(1), uncover(0), about(0)), [-2])

    def test_marks_elsewhere_do_not_count(self):
        before = (begin(bits(0, 2)), uncover(7), mark(0))
        # 5 stands behind 6 by number and 18 two rows below: none is about 7.
        for c in (5, 9, 10, 18, 19, 20, 59):
            self.assertEqual(last(*before, mark(c), about(7)), [-2], c)
            self.assertEqual(last(*before, mark(2), mark(c), about(7))[0] > 0, True, c)

    def test_not_round_a_rows_end(self):
        # 5 and 17 lie two rows' ends away from 6 and 12; their marks are none of theirs.
        self.assertEqual(last(begin(bits(0)), uncover(6), mark(5), about(6)), [-2])
        self.assertEqual(last(begin(bits(5)), uncover(11), mark(12), about(11)), [-2])


class AboutOpensTest(unittest.TestCase):
    def test_all_that_are_left(self):
        mines = bits(0, 2, 12, 14) | WALL
        before = (begin(mines), uncover(7), mark(0), mark(2), mark(12), mark(14))
        self.assertEqual(play(*before, about(7), TELL)[6:],
                         [[4], [0, bits(1, 6, 7, 8, 13), bits(0, 2, 12, 14)]])

    def test_those_open_already_are_not_counted(self):
        mines = bits(0, 2, 12, 14) | WALL
        before = (begin(mines), uncover(7), uncover(1), uncover(13), mark(0), mark(2), mark(12), mark(14))
        self.assertEqual(last(*before, about(7)), [2])

    def test_with_spread(self):
        # 14 sees the mine 7 alone; below it nothing lies down to the wall.
        before = (begin(bits(7) | bits(*range(36, 42))), uncover(14), mark(7))
        opened = bits(8, 9, 13, *range(15, 36), 14, 2, 3, 4, 5, 10, 11, 12)
        self.assertEqual(play(*before, about(14), TELL)[3:],
                         [[31], [0, opened, bits(7)]])

    def test_a_spread_leaves_marks_out(self):
        before = (begin(bits(7) | bits(*range(36, 42))), uncover(14), mark(7), mark(5), mark(33))
        without = last(*before[:3], about(14))[0]
        self.assertEqual(last(*before, about(14)), [without - 2])

    def test_marks_that_were_taken_from_about_a_square_with_no_mine_about_it(self):
        before = (begin(bits(59)), mark(1), uncover(0), mark(1))
        self.assertEqual(play(*before, about(0), TELL)[4:], [[1], [1, ALL ^ bits(59), 0]])

    def test_nothing_left_to_open(self):
        before = (begin(bits(0, 58)), mark(54), uncover(30))
        self.assertEqual(play(*before, about(20), TELL)[3:],
                         [[0], last(*before, TELL)])
        self.assertEqual(last(begin(bits(0, 5) | WALL), uncover(7), mark(0), uncover(14), about(7)), [0])

    def test_won_by_it(self):
        before = (begin(bits(0)), mark(59), uncover(30), mark(59))
        self.assertEqual(last(*before, TELL), [0, ALL ^ bits(0, 59), 0])
        self.assertEqual(play(*before, about(58), TELL)[4:], [[1], [1, ALL ^ 1, 0]])

    def test_won_by_its_spread(self):
        before = (begin(bits(0)), uncover(1), mark(0))
        self.assertEqual(play(*before, about(1), TELL, about(1))[3:], [[58], [1, ALL ^ 1, 1], [-9]])


class AboutLosesTest(unittest.TestCase):
    def test_a_wrong_mark(self):
        before = (begin(bits(9)), uncover(8), mark(7))
        self.assertEqual(play(*before, about(8), TELL)[3:], [[-1], [2, bits(8, 9), bits(7)]])

    def test_the_lowest_mine_alone_is_opened(self):
        # About 20 are 13 14 15 19 21 25 26 27.
        for mines, marks, first in (
            ((14, 19, 27), (13, 15, 26), 14),
            ((27, 25), (13, 14), 25),
            ((13, 27), (13, 26), 27),
            ((13, 14, 15), (25, 14, 27), 13),
            ((13, 14, 15, 19, 21, 25, 26), (13, 14, 15, 19, 21, 25, 27), 26),
        ):
            before = [begin(bits(*mines)), uncover(20)] + [mark(c) for c in marks]
            self.assertEqual(play(*before, about(20), TELL)[-2:], [[-1], [2, bits(20, first), bits(*marks)]], mines)

    def test_all_safe_squares_open_but_for_the_wrong_mark(self):
        before = (begin(bits(0)), mark(1), uncover(59), TELL)
        self.assertEqual(last(*before), [0, ALL ^ 3, 2])
        self.assertEqual(play(*before, about(7), TELL)[4:], [[-1], [2, ALL ^ 2, 2]])
