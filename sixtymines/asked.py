"""What is asked of a board that is seen in part: count, each, certain and best, each answered as a list."""

from sixtymines.refusals import NOTHING_CLOSED, NOT_IN_RANGE, NO_WAY
from sixtymines.squares import SQUARES, set_of
from sixtymines.tally import CLOSED, MINE
from sixtymines.ways import Ways


def count(m, seen):
    if not is_in_range(m, seen):
        return [NOT_IN_RANGE]
    return [Ways(m, seen).total]


def each(m, seen):
    if not is_in_range(m, seen):
        return [NOT_IN_RANGE]
    ways = Ways(m, seen)
    if ways.total == 0:
        return [NO_WAY]
    return [0] + ways.with_mine()


def certain(m, seen):
    if not is_in_range(m, seen):
        return [NOT_IN_RANGE]
    ways = Ways(m, seen)
    if ways.total == 0:
        return [NO_WAY]
    many = ways.with_mine()
    never = [c for c in closed_squares(seen) if many[c] == 0]
    always = [c for c in closed_squares(seen) if many[c] == ways.total]
    return [len(never) + len(always), set_of(never), set_of(always)]


def best(m, seen):
    if not is_in_range(m, seen):
        return [NOT_IN_RANGE]
    ways = Ways(m, seen)
    if ways.total == 0:
        return [NO_WAY]
    closed = closed_squares(seen)
    if len(closed) == 0:
        return [NOTHING_CLOSED]
    many = ways.with_mine()
    # Of several alike min takes the first, and the lowest stands first.
    return [min(closed, key=lambda c: many[c])]


# The closed squares that have a mine in none of the ways.
def safe_squares(m, seen):
    many = Ways(m, seen).with_mine()
    return [c for c in closed_squares(seen) if many[c] == 0]


def is_in_range(m, seen):
    return 0 <= m and m <= SQUARES and max(seen) <= MINE


def closed_squares(seen):
    return [c for c in range(SQUARES) if seen[c] == CLOSED]
