"""The calls on one game, handed in as one list of whole numbers and answered as another."""

from sixtymines.game import Game

BEGIN = 0
OPEN = 1
MARK = 2
ABOUT = 3

# How many numbers each call takes up, its own number among them.
CALL_LENGTHS = {0: 2, 1: 2, 2: 2, 3: 2, 4: 1}


def answers(calls):
    game = Game()
    answered = []
    place = 0
    while place < len(calls):
        behind = place + CALL_LENGTHS[calls[place]]
        answer = answer_to(game, calls[place:behind])
        answered.append(len(answer))
        answered.extend(answer)
        place = behind
    return answered


def answer_to(game, call):
    number = call[0]
    if number == BEGIN:
        return [game.begin(call[1])]
    if number == OPEN:
        return [game.uncover(call[1])]
    if number == MARK:
        return [game.mark(call[1])]
    if number == ABOUT:
        return [game.uncover_about(call[1])]
    return game.tell()
