"""Points 1 to 6 in long made-up games, beside a second player that keeps squares as rows and columns.

Calls of points 7 to 9 stand among the others; what they answer is what each answers in a line of its own.
"""

import random
import unittest

from sixtymines.board import answers
from tests.lines import ALL, HIGHEST, LOWEST, flat

PLACES = [(row, column) for row in range(10) for column in range(6)]


class Model:
    def __init__(self):
        self.start(0)

    def start(self, mines):
        self.mines = {place for c, place in enumerate(PLACES) if mines >> c & 1}
        self.seen = set()
        self.flags = set()
        self.over = 0

    def near(self, place):
        return [other for other in PLACES
                if other != place and max(abs(other[0] - place[0]), abs(other[1] - place[1])) == 1]

    def closed(self, places):
        return {place for place in places if place not in self.seen and place not in self.flags}

    def grow(self, wave):
        before = len(self.seen)
        while wave:
            self.seen |= wave
            calm = [place for place in wave if not self.mines.intersection(self.near(place))]
            wave = self.closed(other for place in calm for other in self.near(place))
        if len(self.seen) > before and self.seen == set(PLACES) - self.mines:
            self.over = 1
        return len(self.seen) - before

    def hit(self, places):
        struck = sorted(self.mines & places)
        if struck:
            self.seen.add(struck[0])
            self.over = 2
        return bool(struck)

    def move(self, number, c):
        if c not in range(60):
            return -8
        if self.over:
            return -9
        place = PLACES[c]
        if number == 2:
            if place in self.seen:
                return -2
            self.flags ^= {place}
            return int(place in self.flags)
        wave = {place}
        if number == 3:
            wave = set(self.near(place))
            if place not in self.seen or len(wave & self.flags) != len(wave & self.mines):
                return -2
        wave = self.closed(wave)
        return -1 if self.hit(wave) else self.grow(wave)

    def answer(self, call):
        if call[0] > 4:
            return answers(list(call))
        if call[0] == 4:
            return [3, self.over] + [sum(1 << c for c, place in enumerate(PLACES) if place in places)
                                     for places in (self.seen, self.flags)]
        if call[0] == 0:
            if call[1] > ALL:
                return [1, -8]
            self.start(call[1])
            return [1, len(self.mines)]
        return [1, self.move(*call)]


def some_mines(dice):
    share = dice.choice((0.0, 0.03, 0.08, 0.15, 0.3, 0.7, 1.0))
    return sum(1 << c for c in range(60) if dice.random() < share)


def some_sight(dice, model):
    """What may be seen of the game: of open squares the number, of some marked ones that they are mines."""
    known = {place for place in model.flags if dice.random() < 0.3}
    told = {place: len(model.mines.intersection(model.near(place))) for place in model.seen - model.mines}
    return [10 if place in known else told.get(place, 9) for place in PLACES]


def some_call_beside_the_game(dice, model):
    number = dice.randrange(5, 10)
    if number == 9:
        return (9, some_mines(dice), dice.choice((-1, 60, *range(60))))
    m = dice.choice((LOWEST, -1, 61, HIGHEST)) if dice.random() < 0.05 else len(model.mines)
    return (number, m, 60, *some_sight(dice, model))


def some_call(dice, model):
    if dice.random() < 0.1:
        return some_call_beside_the_game(dice, model)
    chance = dice.random()
    if model.over and chance < 0.4 or chance < 0.02:
        return (0, some_mines(dice) if dice.random() < 0.8 else dice.randrange(2 ** 60, 2 ** 64))
    if chance < 0.5:
        return (4,)
    if chance < 0.52:
        return (dice.randrange(1, 4), dice.choice((LOWEST, -1, 60, HIGHEST)))
    number = dice.randrange(1, 4)
    c = dice.randrange(60)
    if number == 3 and model.seen:
        c = PLACES.index(dice.choice(sorted(model.seen)))
    mined = PLACES[c] in model.mines
    if number == 1 and mined and dice.random() < 0.9 or number == 2 and not mined and dice.random() < 0.5:
        return (3 - number, c)
    return (number, c)


class ModelTest(unittest.TestCase):
    def test_long_games(self):
        reached = {}
        for seed in range(150):
            dice = random.Random(seed)
            model = Model()
            calls, wanted = [], []
            for step in range(400):
                call = some_call(dice, model)
                answer = model.answer(call)
                calls.append(call)
                wanted.extend(answer)
                kind = (call[0], min(answer[1], 2))
                reached[kind] = reached.get(kind, 0) + 1
            self.assertEqual(answers(flat(calls)), wanted, seed)
        for kind in ((0, -8), (1, -9), (1, -8), (1, -1), (1, 0), (1, 1), (1, 2), (2, -9), (2, -8), (2, -2), (2, 0),
                     (2, 1), (3, -9), (3, -8), (3, -2), (3, -1), (3, 0), (3, 1), (3, 2), (4, 0), (4, 1), (4, 2),
                     (5, -8), (5, 0), (5, 1), (5, 2), (6, -8), (6, -1), (6, 0), (7, -8), (7, -1), (7, 0), (7, 2),
                     (8, -8), (8, -1), (8, 0), (8, 2), (9, -8), (9, -1), (9, 0), (9, 2)):
            self.assertGreater(reached.get(kind, 0), 20, kind)
