"""Point 9: solved."""

import math
import random
import unittest

from tests.lines import (
    ALL, HIGHEST, LOWEST, TELL, about, begin, bits, certain, last, mark, near, play, sight_of, solved, uncover,
    ways_one_by_one,
)

WALL = bits(*range(18, 24))


def spread(mines, opened, wave):
    """What is open when these squares, none of them a mine, are opened too."""
    wave = [c for c in wave if not opened >> c & 1]
    while wave:
        c = wave.pop()
        opened |= 1 << c
        if not mines & bits(*near(c)):
            wave += [d for d in near(c) if not opened >> d & 1]
    return opened


def safe_one_by_one(m, seen):
    ways = ways_one_by_one(m, seen)
    return [c for c in range(60) if seen[c] == 9 and not any(way >> c & 1 for way in ways)]


def safe_by_certain(m, seen):
    never = last(certain(m, seen))[1]
    return [c for c in range(60) if never >> c & 1]


def rounds_by(safe_squares, mines, first):
    if mines >> first & 1:
        return -1
    opened = spread(mines, 0, [first])
    rounds = 0
    while opened != ALL ^ mines:
        safe = safe_squares(mines.bit_count(), sight_of(mines, opened))
        if not safe:
            return -1
        opened = spread(mines, opened, safe)
        rounds += 1
    return rounds


class RefusedTest(unittest.TestCase):
    def test_no_square(self):
        for first in (LOWEST, LOWEST + 1, -60, -1, 60, 61, 64, 256, HIGHEST - 1, HIGHEST):
            for mines in (0, 1, bits(9, 59), ALL):
                self.assertEqual(last(solved(mines, first)), [-8], (mines, first))

    def test_bits_above_59(self):
        for mines in (2 ** 60, 2 ** 61, 2 ** 62, 2 ** 63, 2 ** 60 + 1, 2 ** 63 + 2, 2 ** 64 - 1, 2 ** 64 - 2 ** 60):
            for first in (0, 1, 30, 59):
                self.assertEqual(last(solved(mines, first)), [-8], (mines, first))

    def test_both(self):
        self.assertEqual(last(solved(2 ** 60, 60)), [-8])
        self.assertEqual(last(solved(2 ** 64 - 1, -1)), [-8])

    def test_ahead_of_first_being_a_mine(self):
        self.assertEqual(last(solved(2 ** 60 + 1, 0)), [-8])
        self.assertEqual(last(solved(2 ** 64 - 1, 59)), [-8])


class NotSolvedTest(unittest.TestCase):
    def test_first_is_a_mine(self):
        for c in range(60):
            self.assertEqual(last(solved(bits(c), c)), [-1], c)
            self.assertEqual(last(solved(ALL, c)), [-1], c)

    def test_nothing_safe_behind_the_first(self):
        self.assertEqual(last(solved(bits(0, 59), 1)), [-1])
        self.assertEqual(last(solved(ALL ^ bits(0, 59), 0)), [-1])

    def test_nothing_safe_behind_a_first_that_spreads(self):
        # 2, 6, 7 and 8 are known; behind them the fifth lies under 0 or 1.
        self.assertEqual(last(solved(bits(0, 2, 6, 7, 8), 59)), [-1])
        self.assertEqual(last(solved(bits(0, 1, 2, 6, 7, 8), 59)), [0])
        self.assertEqual(last(solved(bits(2, 6, 7, 8), 59)), [1])

    def test_nothing_safe_behind_two_rounds(self):
        # Then 0, 1 and 6 are left beside mines that are known, one of the three a mine.
        mines = bits(0, 7, 14, 19, 50, 52)
        self.assertEqual(rounds_by(safe_one_by_one, mines, 17), -1)
        self.assertEqual(last(solved(mines, 17)), [-1])

    def test_a_guess_with_the_same_number_of_mines(self):
        # Behind a wall that is known one mine lies under one of the squares.
        self.assertEqual(last(solved(WALL | bits(59), 0)), [-1])
        self.assertEqual(last(solved(WALL, 0)), [1])


class SolvedTest(unittest.TestCase):
    def test_the_first_opening_clears_all(self):
        for c in range(60):
            self.assertEqual(last(solved(0, c)), [0], c)
            self.assertEqual(last(solved(ALL ^ bits(c), c)), [0], c)
        self.assertEqual(last(solved(bits(0), 59)), [0])
        self.assertEqual(last(solved(bits(59), 0)), [0])
        self.assertEqual(last(solved(ALL ^ bits(0, 1, 6, 7), 0)), [0])

    def test_one_round(self):
        # All mines are known to lie about 27.
        self.assertEqual(last(solved(bits(*near(27)), 27)), [1])

    def test_what_is_safe_spreads_in_the_same_round(self):
        # 1 sees one of 0, 2, 6, 7, 8; the squares beyond are safe, and from them 2, 6, 7, 8 are opened too.
        self.assertEqual(last(solved(bits(0), 1)), [1])

    def test_the_number_of_mines_is_known(self):
        # The wall takes all six: what lies behind it is safe.
        self.assertEqual(last(solved(WALL, 0)), [1])
        self.assertEqual(last(solved(WALL, 59)), [1])

    def test_more_rounds(self):
        for rounds, mines, first in (
            (10, (0, 12, 14, 18, 28, 31, 33, 37, 40, 53), 51),
            (11, (1, 2, 10, 13, 14, 16, 25, 31, 39, 49, 53), 51),
            (12, (0, 1, 7, 8, 10, 19, 20, 22, 31, 38, 40, 41, 46, 50, 52, 53, 56), 42),
            (14, (3, 7, 19, 21, 23, 26, 30, 33, 34, 43, 46, 51, 55, 58), 11),
        ):
            self.assertEqual(last(solved(bits(*mines), first)), [rounds])

    def test_one_by_one(self):
        dice = random.Random(21)
        reached = {}
        for turn in range(250):
            mines = bits(*dice.sample(range(60), dice.randrange(1, 4)))
            if dice.random() < 0.3:
                mines = ALL ^ mines
            first = dice.choice([c for c in range(60) if not mines >> c & 1])
            opened = spread(mines, 0, [first])
            if math.comb(60 - opened.bit_count(), mines.bit_count()) > 5000:
                continue
            want = rounds_by(safe_one_by_one, mines, first)
            self.assertEqual(last(solved(mines, first)), [want], (mines, first))
            reached[want] = reached.get(want, 0) + 1
        for want in (-1, 0, 1, 2):
            self.assertGreater(reached.get(want, 0), 2, want)

    def test_by_certain(self):
        dice = random.Random(22)
        reached = {}
        for turn in range(300):
            mines = bits(*dice.sample(range(60), dice.randrange(3, 12)))
            first = dice.randrange(60)
            want = rounds_by(safe_by_certain, mines, first)
            self.assertEqual(last(solved(mines, first)), [want], (mines, first))
            reached[want] = reached.get(want, 0) + 1
        for want in range(-1, 7):
            self.assertGreater(reached.get(want, 0), 0, want)


class TheGameStaysTest(unittest.TestCase):
    GAMES = (
        (),
        (begin(bits(9)), uncover(8), mark(30)),
        (begin(bits(9)), uncover(8), mark(9)),
        (begin(bits(59)), mark(59), uncover(0)),
        (begin(bits(9)), mark(30), uncover(8), uncover(9)),
    )

    def test_going_on_won_or_lost(self):
        for game in self.GAMES:
            for call in (solved(0, 0), solved(bits(9), 0), solved(bits(0), 1), solved(bits(0), 0), solved(0, 60),
                         solved(2 ** 60, 0), solved(bits(0, 59), 1)):
                self.assertEqual(last(*game, call, TELL), last(*game, TELL), (game, call))
                for move in (uncover(9), mark(9), about(8), uncover(0)):
                    self.assertEqual(play(*game, call, move, TELL)[-2:], play(*game, move, TELL)[-2:],
                                     (game, call, move))

    def test_the_game_is_not_looked_at(self):
        for call in (solved(bits(9), 0), solved(bits(0), 1), solved(bits(0, 59), 1), solved(0, 30)):
            for game in self.GAMES:
                self.assertEqual(last(*game, call), last(call), (game, call))
        # A mark of the game holds no spread there.
        self.assertEqual(play(mark(7), solved(0, 0), TELL), [[1], [0], [0, 0, bits(7)]])
