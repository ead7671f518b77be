"""One game: where its mines lie, what is open, what is marked, and whether it goes on."""

from sixtymines.refusals import GAME_IS_OVER, HIT_A_MINE, NOT_ALLOWED, NOT_IN_RANGE
from sixtymines.squares import ALL_SQUARES, SQUARES, holds, is_square, members_among, size, squares_about
from sixtymines.tally import CLOSED

GOING_ON = 0
WON = 1
LOST = 2


class Game:
    def __init__(self):
        self.begin(0)

    def begin(self, mines):
        if mines >> SQUARES != 0:
            return NOT_IN_RANGE
        self.mines = mines
        self.opened = 0
        self.marked = 0
        self.state = GOING_ON
        return size(mines)

    # The document's call open (that word is one of Python's own).
    def uncover(self, c):
        refusal = self.refusal_of(c)
        if refusal < 0:
            return refusal
        if holds(self.opened | self.marked, c):
            return 0
        if holds(self.mines, c):
            return self.lose_at(c)
        return self.uncover_safe([c])

    def mark(self, c):
        refusal = self.refusal_of(c)
        if refusal < 0:
            return refusal
        if holds(self.opened, c):
            return NOT_ALLOWED
        self.marked = self.marked ^ (1 << c)
        return 1 if holds(self.marked, c) else 0

    # The document's call about.
    def uncover_about(self, c):
        refusal = self.refusal_of(c)
        if refusal < 0:
            return refusal
        near = squares_about(c)
        if not holds(self.opened, c) or not self.as_many_marks_as_mines(near):
            return NOT_ALLOWED
        chosen = [d for d in near if not holds(self.opened | self.marked, d)]
        hit = members_among(self.mines, chosen)
        if len(hit) > 0:
            return self.lose_at(hit[0])
        return self.uncover_safe(chosen)

    def tell(self):
        return [self.state, self.opened, self.marked]

    # What is seen of each square: the mines about it if it's open, else nothing.
    def sight(self):
        return [self.mines_about(c) if holds(self.opened, c) else CLOSED for c in range(SQUARES)]

    def mines_about(self, c):
        return len(members_among(self.mines, squares_about(c)))

    # What every move on square c is refused with, or 0.
    def refusal_of(self, c):
        if not is_square(c):
            return NOT_IN_RANGE
        if self.state != GOING_ON:
            return GAME_IS_OVER
        return 0

    def as_many_marks_as_mines(self, squares):
        return len(members_among(self.marked, squares)) == len(members_among(self.mines, squares))

    def lose_at(self, c):
        self.opened = self.opened | (1 << c)
        self.state = LOST
        return HIT_A_MINE

    # Opens these squares, none of them a mine, and spreads from those with no mine about them.
    def uncover_safe(self, squares):
        many = 0
        waiting = list(squares)
        while len(waiting) > 0:
            c = waiting.pop()
            # A square that is open already does not spread again: nothing is opened there.
            if not holds(self.opened | self.marked, c):
                self.opened = self.opened | (1 << c)
                many = many + 1
                if self.mines_about(c) == 0:
                    waiting.extend(squares_about(c))
        if many > 0 and self.opened == ALL_SQUARES ^ self.mines:
            self.state = WON
        return many
