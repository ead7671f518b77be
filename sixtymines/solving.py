"""Whether a board can be cleared without a guess."""

from sixtymines.asked import safe_squares
from sixtymines.game import GOING_ON, Game, WON
from sixtymines.refusals import NOT_IN_RANGE, NOT_SOLVED
from sixtymines.squares import SQUARES, is_square, size


# The document's call solved. It plays a game of its own.
def rounds_to_solve(mines, first):
    if not is_square(first) or mines >> SQUARES != 0:
        return NOT_IN_RANGE
    game = Game()
    game.begin(mines)
    game.uncover(first)
    rounds = 0
    while game.state == GOING_ON:
        safe = safe_squares(size(mines), game.sight())
        if len(safe) == 0:
            return NOT_SOLVED
        game.uncover_safe(safe)
        rounds = rounds + 1
    return rounds if game.state == WON else NOT_SOLVED
