"""Point 8: count, each, certain, best."""

import math
import random
import unittest

from tests.lines import (
    ALL, answers_one_by_one, best, bits, certain, count, each, last, near, play, sight, sight_of,
)

UNSEEN = sight({})
# Under these is no way: a number that nothing can fill, two that quarrel, one with a mine too many.
NO_WAYS = (
    (10, sight({0: 4})),
    (10, sight({0: 8})),
    (10, sight({0: 0, 1: 5})),
    (10, sight({6: 10, 0: 0})),
    (10, sight({0: 10, 1: 10, 2: 10, 7: 2})),
    (2, sight({0: 10, 1: 10, 2: 10})),
    (2, sight({27: 3})),
    (0, sight({27: 1})),
    (0, sight({27: 10})),
    (60, sight({27: 8})),
    (59, [10] * 60),
    (0, [1] * 60),
    (1, [0] * 60),
    (60, [0] * 60),
    (0, [8] * 60),
    (9, sight({0: 1, 1: 2, 2: 0})),
    (10, sight({0: 3, 2: 0})),
)


def ask_all(m, seen):
    return play(count(m, seen), each(m, seen), certain(m, seen), best(m, seen))


def some_board(dice):
    share = dice.random()
    return sum(1 << c for c in range(60) if dice.random() < share)


def some_sight(dice, mines, open_share, known_share):
    """What is seen of a board when each square without a mine is open by chance, and each mine known by chance."""
    opened = sum(1 << c for c in range(60) if not mines >> c & 1 and dice.random() < open_share)
    seen = sight_of(mines, opened)
    for c in range(60):
        if mines >> c & 1 and dice.random() < known_share:
            seen[c] = 10
    return seen


class CountTest(unittest.TestCase):
    def test_nothing_seen(self):
        for m, many in ((0, 1), (1, 60), (2, 1770), (30, 118264581564861424), (59, 60), (60, 1)):
            self.assertEqual(last(count(m, UNSEEN)), [many], m)

    def test_with_numbers(self):
        self.assertEqual(last(count(1, sight({0: 1}))), [3])
        self.assertEqual(last(count(1, sight({0: 0}))), [56])
        # 0 has its mine at 6 or 7, so 1 has that one too and none at 2 or 8; the other is one of 54.
        self.assertEqual(last(count(2, sight({0: 1, 1: 1}))), [2 * 54])
        # Numbers that have nothing in common.
        seen = sight({0: 2, 27: 4, 59: 1})
        self.assertEqual(last(count(20, seen)), [3 * math.comb(8, 4) * 3 * math.comb(60 - 3 - 14, 13)])

    def test_with_known_mines(self):
        self.assertEqual(last(count(5, sight({0: 10, 7: 10}))), [math.comb(58, 3)])
        self.assertEqual(last(count(2, sight({0: 10, 7: 10}))), [1])
        self.assertEqual(last(count(60, sight({0: 10, 7: 10}))), [1])

    def test_with_both(self):
        seen = sight({27: 5, 20: 10, 34: 10, 0: 10})
        self.assertEqual(last(count(20, seen)), [math.comb(6, 3) * math.comb(60 - 4 - 6, 20 - 3 - 3)])

    def test_none_may_lie_so(self):
        for m, seen in NO_WAYS:
            self.assertEqual(last(count(m, seen)), [0], (m, seen))

    def test_all_seen(self):
        dice = random.Random(8)
        for turn in range(20):
            mines = some_board(dice)
            seen = some_sight(dice, mines, 1, 1)
            for m in range(61):
                self.assertEqual(last(count(m, seen)), [1 if m == mines.bit_count() else 0])

    def test_all_mines_known_or_all_numbers(self):
        self.assertEqual(last(count(60, [10] * 60)), [1])
        self.assertEqual(last(count(0, [0] * 60)), [1])

    def test_numbers_in_every_row(self):
        # Every second square of every second row: fifteen numbers and forty-five closed squares.
        seen = sight({c: 3 for c in range(60) if c // 6 % 2 == 1 and c % 2 == 1})
        self.check_split(20, seen, 0)
        self.check_split(17, seen, 26)

    def check_split(self, m, seen, c):
        """Square c is a mine or sees 0 to 8: these ways together are all."""
        whole = last(count(m, seen))[0]
        parts = [last(count(m, seen[:c] + [byte] + seen[c + 1:]))[0] for byte in (*range(9), 10)]
        self.assertEqual(whole, sum(parts), (m, seen, c))
        return whole, parts[-1]

    def test_every_split_of_large_boards(self):
        dice = random.Random(9)
        large = 0
        for turn in range(60):
            mines = some_board(dice)
            seen = some_sight(dice, mines, dice.random() / 2, dice.random() / 2)
            m = mines.bit_count()
            told = last(each(m, seen))
            closed = [c for c in range(60) if seen[c] == 9]
            for c in dice.sample(closed, min(6, len(closed))):
                whole, with_mine = self.check_split(m, seen, c)
                self.assertEqual(told[1 + c], with_mine, (m, seen, c))
                large += whole > 10 ** 6
        self.assertGreater(large, 100)


class NoWayTest(unittest.TestCase):
    def test_each_certain_best(self):
        for m, seen in NO_WAYS:
            for ask in (each, certain, best):
                self.assertEqual(last(ask(m, seen)), [-1], (ask, m, seen))

    def test_ahead_of_no_square_seen_as_9(self):
        self.assertEqual(last(best(59, [10] * 60)), [-1])
        self.assertEqual(last(best(1, [0] * 60)), [-1])


class EachTest(unittest.TestCase):
    def test_nothing_seen(self):
        for m in (0, 1, 2, 30, 59, 60):
            want = math.comb(59, m - 1) if m > 0 else 0
            self.assertEqual(last(each(m, UNSEEN)), [0] + [want] * 60, m)

    def test_numbers_closed_and_known(self):
        # 27 sees two, one of them known at 20: the other is one of seven. Of 51 more one is known, 11 hidden.
        seen = sight({27: 2, 20: 10, 0: 10})
        ways = 7 * math.comb(50, 11)
        want = []
        for c in range(60):
            if c in (0, 20):
                want.append(ways)
            elif c == 27:
                want.append(0)
            elif c in near(27):
                want.append(math.comb(50, 11))
            else:
                want.append(7 * math.comb(49, 10))
        self.assertEqual(play(count(14, seen), each(14, seen)), [[ways], [0] + want])

    def test_they_make_m_times_the_ways(self):
        dice = random.Random(10)
        for turn in range(60):
            mines = some_board(dice)
            seen = some_sight(dice, mines, dice.random(), dice.random() / 2)
            m = mines.bit_count()
            (ways,), told = play(count(m, seen), each(m, seen))
            self.assertEqual(len(told), 61)
            self.assertEqual(told[0], 0)
            self.assertEqual(sum(told), m * ways)

    def test_all_seen(self):
        seen = sight_of(bits(0, 59), ALL ^ bits(0, 59))
        seen[0] = seen[59] = 10
        self.assertEqual(last(each(2, seen)), [0, 1] + [0] * 58 + [1])


class CertainTest(unittest.TestCase):
    def test_nothing_certain(self):
        self.assertEqual(last(certain(1, UNSEEN)), [0, 0, 0])
        self.assertEqual(last(certain(59, UNSEEN)), [0, 0, 0])

    def test_never(self):
        # All mines lie about 0.
        self.assertEqual(last(certain(1, sight({0: 1}))), [56, ALL ^ bits(0, 1, 6, 7), 0])

    def test_always(self):
        self.assertEqual(last(certain(10, sight({0: 3}))), [3, 0, bits(1, 6, 7)])

    def test_both(self):
        self.assertEqual(last(certain(10, sight({0: 2, 1: 2}))), [4, bits(2, 8), bits(6, 7)])
        self.assertEqual(last(certain(10, sight({0: 3, 13: 2}))),
                         [9, bits(8, 12, 14, 18, 19, 20), bits(1, 6, 7)])

    def test_known_mines_and_numbers_are_in_neither(self):
        self.assertEqual(last(certain(1, sight({0: 10}))), [59, ALL ^ 1, 0])
        self.assertEqual(last(certain(60, sight({0: 10}))), [59, 0, ALL ^ 1])
        self.assertEqual(last(certain(60, [10] * 60)), [0, 0, 0])
        self.assertEqual(last(certain(0, [0] * 60)), [0, 0, 0])

    def test_by_the_number_of_mines_alone(self):
        seen = sight({0: 1, 27: 2})
        self.assertEqual(last(certain(3, seen)),
                         [60 - 2 - 3 - 8, ALL ^ bits(0, 1, 6, 7, 27, *near(27)), 0])
        # One mine for two numbers: it lies about both.
        self.assertEqual(last(certain(1, sight({1: 1, 3: 1}))), [56, ALL ^ bits(1, 2, 3, 8), 0])

    def test_by_two_numbers(self):
        # 1 at the edge sees one, and so does 0, which sees but part of what 1 sees: 2 and 8 have none.
        seen = sight({0: 1, 1: 1})
        self.assertEqual(last(certain(20, seen)), [2, bits(2, 8), 0])


class BestTest(unittest.TestCase):
    def test_the_fewest(self):
        # Behind 0 lies one of three; the rest is fuller or emptier than that.
        self.assertEqual(last(best(2, sight({0: 1}))), [2])
        self.assertEqual(last(best(50, sight({0: 1}))), [1])
        self.assertEqual(last(best(50, sight({59: 1}))), [52])

    def test_the_lowest_of_several_alike(self):
        self.assertEqual(last(best(30, UNSEEN)), [0])
        self.assertEqual(last(best(0, UNSEEN)), [0])
        self.assertEqual(last(best(60, UNSEEN)), [0])
        self.assertEqual(last(best(30, sight({0: 10, 1: 10, 2: 10}))), [3])
        self.assertEqual(last(best(10, sight({27: 0}))), [20])
        self.assertEqual(last(best(10, sight({0: 0, 27: 0}))), [1])

    def test_no_known_mine_and_no_number(self):
        # Numbers and known mines are left out, also where all that is closed has a mine.
        self.assertEqual(last(best(60, sight({0: 10}))), [1])
        self.assertEqual(last(best(60, [10] * 59 + [9])), [59])
        self.assertEqual(last(best(59, [10] * 59 + [9])), [59])
        self.assertEqual(last(best(58, [10] * 59 + [9])), [-1])
        self.assertEqual(last(best(1, sight_of(1, ALL ^ 1))), [0])

    def test_no_square_seen_as_9(self):
        self.assertEqual(last(best(60, [10] * 60)), [-2])
        self.assertEqual(last(best(0, [0] * 60)), [-2])
        seen = sight_of(1, ALL ^ 1)
        seen[0] = 10
        self.assertEqual(last(best(1, seen)), [-2])

    def test_it_is_the_lowest_with_the_fewest_of_each(self):
        dice = random.Random(12)
        for turn in range(60):
            mines = some_board(dice)
            seen = some_sight(dice, mines, dice.random() / 2, dice.random() / 2)
            m = mines.bit_count()
            told, answer = play(each(m, seen), best(m, seen))
            closed = [(told[1 + c], c) for c in range(60) if seen[c] == 9]
            self.assertEqual(answer, [min(closed)[1]] if closed else [-2])


class OneByOneTest(unittest.TestCase):
    def test_few_mines_under_all_squares(self):
        dice = random.Random(13)
        for turn in range(25):
            mines = bits(*dice.sample(range(60), dice.randrange(4)))
            seen = some_sight(dice, mines, dice.random() / 3, 0.2)
            m = mines.bit_count()
            self.assertEqual(ask_all(m, seen), answers_one_by_one(m, seen), (m, seen))

    def test_few_closed_squares(self):
        dice = random.Random(14)
        reached = {}
        for turn in range(700):
            mines = some_board(dice)
            seen = some_sight(dice, mines, 0.95, 0.8)
            m = mines.bit_count()
            if dice.random() < 0.2:
                m = min(60, max(0, m + dice.choice((-2, -1, 1, 2))))
            if dice.random() < 0.2:
                seen[dice.randrange(60)] = dice.randrange(11)
            if math.comb(seen.count(9), max(0, m - seen.count(10))) > 3000:
                continue
            want = answers_one_by_one(m, seen)
            self.assertEqual(ask_all(m, seen), want, (m, seen))
            kind = min(want[0][0], 3)
            reached[kind] = reached.get(kind, 0) + 1
        for kind in range(4):
            self.assertGreater(reached.get(kind, 0), 10, kind)
