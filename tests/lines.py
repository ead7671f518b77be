"""Writes lines of calls and cuts what they answer into one list a call; and goes through ways one by one."""

import itertools

from sixtymines.board import answers

LOWEST = -2147483648
HIGHEST = 2147483647
ALL = 2 ** 60 - 1
TELL = (4,)


def begin(mines):
    return (0, mines)


def uncover(c):
    return (1, c)


def mark(c):
    return (2, c)


def about(c):
    return (3, c)


def count(m, seen):
    return (5, m, len(seen), *seen)


def each(m, seen):
    return (6, m, len(seen), *seen)


def certain(m, seen):
    return (7, m, len(seen), *seen)


def best(m, seen):
    return (8, m, len(seen), *seen)


def solved(mines, first):
    return (9, mines, first)


def bits(*squares):
    return sum(1 << c for c in set(squares))


def flat(calls):
    return [number for call in calls for number in call]


def cut(answered):
    cut_up = []
    place = 0
    while place < len(answered):
        many = answered[place]
        answer = answered[place + 1:place + 1 + many]
        if many < 1 or len(answer) != many:
            raise AssertionError(f"a count that does not fit at {place}: {answered}")
        cut_up.append(answer)
        place += 1 + many
    return cut_up


def play(*calls):
    return cut(answers(flat(calls)))


def last(*calls):
    return play(*calls)[-1]


def near(c):
    """The squares about c, by the distance of their rows and columns."""
    return [d for d in range(60)
            if d != c and abs(d // 6 - c // 6) <= 1 and abs(d % 6 - c % 6) <= 1]


def sight(known):
    """What is seen: of the squares of a dict what it tells, of the others nothing."""
    return [known.get(c, 9) for c in range(60)]


def sight_of(mines, opened):
    """What is seen of a board when these squares of it are open (none of them a mine)."""
    return [(mines & bits(*near(c))).bit_count() if opened >> c & 1 else 9 for c in range(60)]


def ways_one_by_one(m, seen):
    """Each way in which m mines may lie, as a set; found by trying all."""
    closed = [c for c in range(60) if seen[c] == 9]
    known = bits(*[c for c in range(60) if seen[c] == 10])
    numbers = [(bits(*near(c)), seen[c]) for c in range(60) if seen[c] <= 8]
    hidden = m - known.bit_count()
    if hidden < 0:
        return []
    tried = (known | bits(*chosen) for chosen in itertools.combinations(closed, hidden))
    return [way for way in tried if all((way & around).bit_count() == number for around, number in numbers)]


def answers_one_by_one(m, seen):
    """What count, each, certain and best answer, one behind another."""
    ways = ways_one_by_one(m, seen)
    many = [sum(way >> c & 1 for way in ways) for c in range(60)]
    if not ways:
        return [[0], [-1], [-1], [-1]]
    closed = [c for c in range(60) if seen[c] == 9]
    never = [c for c in closed if many[c] == 0]
    always = [c for c in closed if many[c] == len(ways)]
    lowest = sorted(closed, key=lambda c: (many[c], c))
    return [[len(ways)], [0] + many, [len(never + always), bits(*never), bits(*always)],
            [lowest[0] if lowest else -2]]
