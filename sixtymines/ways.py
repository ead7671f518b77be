"""In how many ways so many mines may lie, by what is seen, and in how many of them under each square."""

from sixtymines.squares import SQUARES
from sixtymines.tally import CLOSED, MINE, Tally


# The ways are not gone through one by one: square by square, those that leave the same tally are taken together.
# Of these it is kept how many there are with no mine so far, with one, with two and so on, as one whole number, a
# row: its lowest `width` bits are those with none, the next those with one. n squares have 2^n ways in all, so fields
# of n + 1 bits hold them. Rows are added by +, `<< width` puts one mine more into each way, and the product of two
# rows is the row of all ways of the one joined with all ways of the other.
class Ways:
    def __init__(self, m, seen):
        self.seen = seen
        self.tally = Tally(seen)
        closed = [c for c in range(SQUARES) if seen[c] == CLOSED]
        # Squares beside no number are all alike: how they take mines is told by a formula, without a walk.
        self.beside = [c for c in closed if self.tally.guards[c] != 0]
        self.apart = [c for c in closed if self.tally.guards[c] == 0]
        self.hidden = m - len([c for c in range(SQUARES) if seen[c] == MINE])
        self.width = len(self.beside) + 1
        self.layers = self.all_layers()
        # At the end no number lacks anything: one tally is left, or none if there's no way.
        self.row = sum(self.layers[-1].values())
        self.choices = choices_among(len(self.apart))
        self.total = self.filled_up(self.row, self.choices, self.hidden)

    # Behind each of the squares beside numbers, and ahead of the first: the tallies that may be left, with their rows.
    def all_layers(self):
        layer = {}
        if self.tally.possible:
            layer[self.tally.beginning] = 1
        layers = [layer]
        for c in self.beside:
            layer = self.layer_behind(layer, c)
            layers.append(layer)
        return layers

    def layer_behind(self, layer, c):
        guards = self.tally.guards[c]
        behind = {}
        for tally, row in layer.items():
            mined = tally - self.tally.by_mine[c]
            if mined & guards == guards:
                behind[mined] = behind.get(mined, 0) + (row << self.width)
            empty = tally - self.tally.by_empty[c]
            if empty & guards == guards:
                behind[empty] = behind.get(empty, 0) + row
        return behind

    # How many ways a row of the squares beside numbers makes when those apart, by their choices, take the mines that
    # are left.
    def filled_up(self, row, choices, mines):
        field = (1 << self.width) - 1
        many = 0
        for k in range(len(self.beside) + 1):
            left = mines - k
            if 0 <= left and left < len(choices):
                many = many + ((row >> (k * self.width)) & field) * choices[left]
        return many

    # Of each square: in how many of the ways it has a mine.
    def with_mine(self):
        many = [self.total if self.seen[c] == MINE else 0 for c in range(SQUARES)]
        if len(self.apart) > 0:
            # One of them has its mine, the others take the rest.
            alike = self.filled_up(self.row, choices_among(len(self.apart) - 1), self.hidden - 1)
            for c in self.apart:
                many[c] = alike
        for c, row in self.rows_with_mine().items():
            many[c] = self.filled_up(row, self.choices, self.hidden)
        return many

    # Of each square beside numbers: the row of the ways in which it has a mine. What leads up to the square is joined
    # with what leads on from there to the end, which is found by going back from the end.
    def rows_with_mine(self):
        rows = {}
        onward = {}
        for tally in self.layers[-1]:
            onward[tally] = 1
        for k in range(len(self.beside) - 1, -1, -1):
            c = self.beside[k]
            rows[c] = 0
            before = {}
            for tally, row in self.layers[k].items():
                # A tally with a guard out is in no layer, so nothing leads on from it.
                mined = onward.get(tally - self.tally.by_mine[c], 0) << self.width
                rows[c] = rows[c] + row * mined
                before[tally] = mined + onward.get(tally - self.tally.by_empty[c], 0)
            onward = before
        return rows


# In how many ways no mine, one, two and so on, up to all, lie under so many squares.
def choices_among(squares):
    choices = [1]
    for k in range(squares):
        choices = [without + within for without, within in zip(choices + [0], [0] + choices)]
    return choices
