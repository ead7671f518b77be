"""Point 7: what seen tells, and what count, each, certain and best all refuse."""

import math
import unittest

from tests.lines import (
    ALL, HIGHEST, LOWEST, TELL, begin, best, bits, certain, count, each, last, mark, near, play, sight, uncover,
)

ASKED = (count, each, certain, best)
UNSEEN = sight({})
NO_COUNTS = (LOWEST, LOWEST + 1, -61, -60, -2, -1, 61, 62, 64, 120, HIGHEST - 1, HIGHEST)
NO_SIGHTS = (11, 12, 16, 25, 26, 127, 128, 254, 255)


class WhatSeenTellsTest(unittest.TestCase):
    def test_each_number(self):
        # 27 lies in the middle with 8 about it, 51 are neither.
        for number in range(9):
            for m in (0, 1, 7, 8, 20, 59, 60):
                inside = math.comb(8, number)
                outside = math.comb(51, m - number) if m >= number else 0
                self.assertEqual(last(count(m, sight({27: number}))), [inside * outside], (number, m))

    def test_a_number_is_no_mine(self):
        for number in range(9):
            self.assertEqual(last(each(20, sight({27: number})))[1 + 27], 0, number)
            self.assertEqual(last(count(60, sight({27: number}))), [0], number)
        self.assertEqual(last(count(59, sight({27: 8}))), [1])
        self.assertEqual(last(count(59, sight({27: 7}))), [0])

    def test_a_number_counts_just_the_squares_about_it(self):
        for c in range(60):
            about = len(near(c))
            self.assertEqual(last(certain(0, sight({c: 0}))), [59, ALL ^ bits(c), 0], c)
            self.assertEqual(last(certain(about, sight({c: about}))),
                             [59, ALL ^ bits(c, *near(c)), bits(*near(c))], c)
            self.assertEqual(last(certain(9, sight({c: 0}))), [about, bits(*near(c)), 0], c)

    def test_more_than_lie_about_a_corner_or_an_edge(self):
        for c, about in ((0, 3), (5, 3), (54, 3), (59, 3), (3, 5), (30, 5), (35, 5), (56, 5), (27, 8)):
            for number in range(9):
                want = math.comb(about, number) * math.comb(59 - about, 20 - number)
                self.assertEqual(last(count(20, sight({c: number}))), [want], (c, number))

    def test_nothing(self):
        for m in range(61):
            self.assertEqual(last(count(m, UNSEEN)), [math.comb(60, m)], m)

    def test_a_mine(self):
        for m in range(61):
            want = math.comb(57, m - 3) if m >= 3 else 0
            self.assertEqual(last(count(m, sight({0: 10, 31: 10, 59: 10}))), [want], m)

    def test_a_mine_is_counted_by_the_numbers_about_it(self):
        self.assertEqual(last(count(1, sight({0: 10, 1: 1}))), [1])
        self.assertEqual(last(count(1, sight({0: 10, 1: 0}))), [0])
        self.assertEqual(last(count(2, sight({0: 10, 1: 2}))), [4])
        self.assertEqual(last(count(2, sight({0: 10, 1: 1}))), [54])


class RefusedTest(unittest.TestCase):
    def test_m_out_of_range(self):
        for ask in ASKED:
            for m in NO_COUNTS:
                self.assertEqual(last(ask(m, UNSEEN)), [-8], (ask, m))

    def test_both_ends_of_m(self):
        self.assertEqual(play(count(0, UNSEEN), certain(0, UNSEEN), best(0, UNSEEN), each(0, UNSEEN)),
                         [[1], [60, ALL, 0], [0], [0] * 61])
        self.assertEqual(play(count(60, UNSEEN), certain(60, UNSEEN), best(60, UNSEEN), each(60, UNSEEN)),
                         [[1], [60, 0, ALL], [0], [0] + [1] * 60])

    def test_a_byte_out_of_range(self):
        for ask in ASKED:
            for byte in NO_SIGHTS:
                for c in (0, 1, 29, 58, 59):
                    self.assertEqual(last(ask(10, sight({c: byte}))), [-8], (ask, byte, c))
            for byte in NO_SIGHTS:
                self.assertEqual(last(ask(10, [byte] * 60)), [-8], (ask, byte))

    def test_both_out_of_range(self):
        for ask in ASKED:
            for m in NO_COUNTS:
                self.assertEqual(last(ask(m, sight({59: 11}))), [-8], (ask, m))
                self.assertEqual(last(ask(m, [255] * 60)), [-8], (ask, m))

    def test_ahead_of_no_way(self):
        for ask in ASKED:
            self.assertEqual(last(ask(61, [10] * 60)), [-8])
            self.assertEqual(last(ask(-1, [0] * 60)), [-8])
            self.assertEqual(last(ask(-1, [10] * 60)), [-8])
            self.assertEqual(last(ask(61, [8] * 60)), [-8])
            self.assertEqual(last(ask(3, sight({0: 10, 1: 0, 59: 11}))), [-8])

    def test_m_is_no_remainder(self):
        # Numbers that would be in range if only their lowest bits were looked at.
        for ask in ASKED:
            for m in (256, 512 + 10, -246, 65536, 2 ** 31 - 256, -2 ** 31 + 10):
                self.assertEqual(last(ask(m, UNSEEN)), [-8], (ask, m))


class TheGameStaysTest(unittest.TestCase):
    GAMES = (
        (),
        (begin(bits(9)), uncover(8), mark(30)),
        (begin(bits(59)), mark(59), uncover(0)),
        (begin(bits(9)), mark(30), uncover(8), uncover(9)),
    )

    def test_answered_or_refused(self):
        for game in self.GAMES:
            told = last(*game, TELL)
            for ask in ASKED:
                for m, seen in ((10, UNSEEN), (-1, UNSEEN), (10, sight({0: 11})), (1, sight({0: 10, 1: 0})),
                                (60, [10] * 60)):
                    self.assertEqual(last(*game, ask(m, seen), TELL), told, (game, ask, m))
                    self.assertEqual(last(*game, ask(m, seen), uncover(2)), last(*game, uncover(2)), (game, ask, m))

    def test_the_game_is_not_looked_at(self):
        for ask in ASKED:
            answer = last(ask(10, UNSEEN))
            for game in self.GAMES:
                self.assertEqual(last(*game, ask(10, UNSEEN)), answer)
