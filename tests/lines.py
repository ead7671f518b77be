"""Writes lines of calls and cuts what they answer into one list a call."""

from sixtymines.board import answers

LOWEST = -2147483648
HIGHEST = 2147483647
ALL = 2 ** 60 - 1
TELL = (4,)


def begin(mines):
    return (0, mines)


def uncover(c):
    return (1, c)


def mark(c):
    return (2, c)


def about(c):
    return (3, c)


def bits(*squares):
    return sum(1 << c for c in set(squares))


def flat(calls):
    return [number for call in calls for number in call]


def cut(answered):
    cut_up = []
    place = 0
    while place < len(answered):
        many = answered[place]
        answer = answered[place + 1:place + 1 + many]
        if many < 1 or len(answer) != many:
            raise AssertionError(f"a count that does not fit at {place}: {answered}")
        cut_up.append(answer)
        place += 1 + many
    return cut_up


def play(*calls):
    return cut(answers(flat(calls)))


def last(*calls):
    return play(*calls)[-1]
