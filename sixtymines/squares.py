"""The board of ten rows of six squares, and sets of its squares as numbers (bit c is square c)."""

ROWS = 10
COLUMNS = 6
SQUARES = 60
ALL_SQUARES = 0xFFFFFFFFFFFFFFF


def is_square(c):
    return 0 <= c and c < SQUARES


# The squares beside, above, below and at the corners of c, the lowest number first.
def squares_about(c):
    row = c // COLUMNS
    column = c % COLUMNS
    found = []
    for r in range(max(row - 1, 0), min(row + 2, ROWS)):
        for k in range(max(column - 1, 0), min(column + 2, COLUMNS)):
            square = r * COLUMNS + k
            if square != c:
                found.append(square)
    return found


def holds(squares, c):
    return (squares >> c) & 1 == 1


# How many squares a set has.
def size(squares):
    many = 0
    rest = squares
    while rest > 0:
        many = many + (rest & 1)
        rest = rest >> 1
    return many


# Those of the candidates that are in the set, in the order in which they came.
def members_among(squares, candidates):
    return [c for c in candidates if holds(squares, c)]


def set_of(squares):
    together = 0
    for c in squares:
        together = together | (1 << c)
    return together
