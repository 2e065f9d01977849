"""What the tests hold the program against: pairs found by trying, in another way than the program's."""

from math import isqrt

BEGIN, GO, NEXT, BACK, PAIR, NTH, NUMBER, IS, ABOVE = range(9)
GREATEST = 4294967295
SQUARES = (0, 1, 4, 9, 16, 25, 36, 49)
ALLOWED = tuple(n for n in range(61) if n not in SQUARES)
GIVEN_COUNTS = (1, 1, 0, 0, 0, 2, 2, 2, 1, 1, 2, 2, 2, 1, 2, 2, 1, 0)


def pairs_by_trying(n, greatest_y):
    found = []
    for y in range(greatest_y + 1):
        x = isqrt(n * y * y + 1)
        if x * x == n * y * y + 1:
            found.append((x, y))
    return found


def least_by_trying(n):
    y = 1
    while True:
        x = isqrt(n * y * y + 1)
        if x * x == n * y * y + 1:
            return (x, y)
        y += 1


def make_pairs(n, last):
    least = least_by_trying(n)
    pairs = [(1, 0), least]
    while len(pairs) <= last:
        one, two = pairs[-2], pairs[-1]
        pairs.append((2 * least[0] * two[0] - one[0], 2 * least[0] * two[1] - one[1]))
    return pairs


# Number 20 has a y above GREATEST for every n.
PAIRS = {n: make_pairs(n, 20) for n in ALLOWED}


def split_answers(told):
    parts = []
    at = 0
    while at < len(told):
        parts.append(told[at + 1:at + 1 + told[at]])
        if len(parts[-1]) != told[at]:
            raise ValueError("fewer numbers than told")
        at += 1 + told[at]
    return parts
