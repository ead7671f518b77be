"""Point 1: begin."""

import unittest

from tests.lines import ALL, TELL, about, begin, bits, last, mark, play, uncover


class BeginTest(unittest.TestCase):
    def test_how_many_mines(self):
        for mines, many in (
            (0, 0),
            (1, 1),
            (bits(59), 1),
            (bits(0, 59), 2),
            (bits(3, 14, 15, 26, 53, 58, 59), 7),
            (ALL ^ 1, 59),
            (ALL, 60),
        ):
            self.assertEqual(play(begin(mines)), [[many]])

    def test_the_mines_lie_where_the_bits_are(self):
        mines = bits(0, 5, 17, 30, 54, 59)
        for c in range(60):
            answer = last(begin(mines), uncover(c))
            self.assertEqual(answer == [-1], bool(mines >> c & 1), c)

    def test_a_new_game_has_nothing_open_or_marked(self):
        self.assertEqual(last(begin(bits(7)), uncover(0), mark(30), begin(bits(1)), TELL), [0, 0, 0])
        self.assertEqual(last(begin(bits(7)), uncover(0), begin(bits(1)), uncover(7)), [1])

    def test_a_new_game_after_one_that_was_won(self):
        self.assertEqual(
            play(uncover(0), TELL, begin(bits(59)), TELL, mark(59), uncover(0), TELL),
            [[60], [1, ALL, 0], [1], [0, 0, 0], [1], [59], [1, ALL ^ bits(59), bits(59)]],
        )

    def test_a_new_game_after_one_that_was_lost(self):
        self.assertEqual(
            play(begin(bits(9)), mark(1), uncover(9), TELL, begin(bits(9)), TELL, uncover(2)),
            [[1], [1], [-1], [2, bits(9), bits(1)], [1], [0, 0, 0], [1]],
        )

    def test_a_bit_above_59_is_refused(self):
        for mines in (2 ** 60, 2 ** 61, 2 ** 62, 2 ** 63, 2 ** 60 + 5, 2 ** 63 + 1, 2 ** 64 - 1, 2 ** 64 - 2 ** 60):
            self.assertEqual(play(begin(mines)), [[-8]], mines)

    def test_a_refusal_leaves_the_game_as_it_was(self):
        before = (begin(bits(7)), uncover(0), mark(30))
        told = last(*before, TELL)
        self.assertEqual(told, [0, 1, bits(30)])
        self.assertEqual(last(*before, begin(2 ** 60), TELL), told)
        self.assertEqual(last(*before, begin(2 ** 60 + 1), uncover(7)), [-1])
        self.assertEqual(last(*before, begin(2 ** 63), mark(7), about(0)), last(*before, mark(7), about(0)))

    def test_a_refusal_leaves_an_ended_game_ended(self):
        self.assertEqual(last(uncover(0), begin(2 ** 60), TELL), [1, ALL, 0])
        self.assertEqual(last(begin(1), uncover(0), begin(2 ** 64 - 1), TELL), [2, 1, 0])
        self.assertEqual(last(begin(1), uncover(0), begin(2 ** 64 - 1), uncover(1)), [-9])
