"""What the numbers that are seen still lack, all of them in one whole number: a tally."""

from sixtymines.squares import SQUARES, squares_about

# What is seen of a square: 0 to 8 mines about it, or one of these.
HIGHEST_NUMBER = 8
CLOSED = 9
MINE = 10

# In a tally each number has two fields of five bits: how many mines it still lacks among the closed squares about it,
# and how many squares without one. A field's highest bit is a guard: it is on, and goes out as soon as one is taken
# from a field that holds nothing more; so no field ever borrows from the one above it.
GUARD = 16
ONE_MINE = 1
ONE_EMPTY = 32
BITS_OF_A_NUMBER = 10


class Tally:
    def __init__(self, seen):
        self.possible = True
        self.beginning = 0
        self.bits = 0
        # Of each square: what a mine there takes from the tally, what none there does, and the guards it may put out.
        self.by_mine = [0] * SQUARES
        self.by_empty = [0] * SQUARES
        self.guards = [0] * SQUARES
        for c in range(SQUARES):
            if seen[c] <= HIGHEST_NUMBER:
                self.enter(seen, c)

    # Enters the number that is seen at square c.
    def enter(self, seen, c):
        near = squares_about(c)
        closed = [d for d in near if seen[d] == CLOSED]
        mines = seen[c] - len([d for d in near if seen[d] == MINE])
        empties = len(closed) - mines
        if mines < 0 or empties < 0:
            self.possible = False
        elif len(closed) > 0:
            self.enter_lack(mines, empties, closed)

    def enter_lack(self, mines, empties, closed):
        lack = (GUARD + mines) * ONE_MINE + (GUARD + empties) * ONE_EMPTY
        self.beginning = self.beginning | (lack << self.bits)
        for d in closed:
            self.by_mine[d] = self.by_mine[d] | (ONE_MINE << self.bits)
            self.by_empty[d] = self.by_empty[d] | (ONE_EMPTY << self.bits)
            self.guards[d] = self.guards[d] | ((GUARD * ONE_MINE + GUARD * ONE_EMPTY) << self.bits)
        self.bits = self.bits + BITS_OF_A_NUMBER
