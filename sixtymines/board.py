"""The calls on one game, handed in as one list of whole numbers and answered as another."""

from sixtymines.asked import best, certain, count, each
from sixtymines.game import Game
from sixtymines.solving import rounds_to_solve

BEGIN = 0
OPEN = 1
MARK = 2
ABOUT = 3
TELL = 4
COUNT = 5
EACH = 6
CERTAIN = 7
BEST = 8

# How many numbers each call takes up, its own number among them. Before the 60 of seen stand m and how many they are.
CALL_LENGTHS = {0: 2, 1: 2, 2: 2, 3: 2, 4: 1, 5: 63, 6: 63, 7: 63, 8: 63, 9: 3}


def answers(calls):
    game = Game()
    answered = []
    place = 0
    while place < len(calls):
        behind = place + CALL_LENGTHS[calls[place]]
        answer = answer_to(game, calls[place:behind])
        answered.append(len(answer))
        answered.extend(answer)
        place = behind
    return answered


def answer_to(game, call):
    number = call[0]
    if number <= TELL:
        return answer_of_game(game, number, call[1:])
    if number <= BEST:
        return answer_by_sight(number, call[1], call[3:])
    return [rounds_to_solve(call[1], call[2])]


def answer_of_game(game, number, given):
    if number == BEGIN:
        return [game.begin(given[0])]
    if number == OPEN:
        return [game.uncover(given[0])]
    if number == MARK:
        return [game.mark(given[0])]
    if number == ABOUT:
        return [game.uncover_about(given[0])]
    return game.tell()


def answer_by_sight(number, m, seen):
    if number == COUNT:
        return count(m, seen)
    if number == EACH:
        return each(m, seen)
    if number == CERTAIN:
        return certain(m, seen)
    return best(m, seen)
