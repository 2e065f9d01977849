"""What the tests hold the program against: pairs found by trying, in another way than the program's."""

from math import isqrt

BEGIN, GO, NEXT, BACK, PAIR, NTH, NUMBER, IS, ABOVE = range(9)
MANY, DIVIDES, COMMON, TOGETHER, RULE, ROOT, LEFT, ROUND, TOLD = range(9, 18)
GREATEST = 4294967295
SQUARES = (0, 1, 4, 9, 16, 25, 36, 49)
ALLOWED = tuple(n for n in range(61) if n not in SQUARES)
GIVEN_COUNTS = (1, 1, 0, 0, 0, 2, 2, 2, 1, 1, 2, 2, 2, 1, 2, 2, 1, 0)


def pairs_by_trying(n, greatest_y):
    found = []
    for y in range(greatest_y + 1):
        x = isqrt(n * y * y + 1)
        if x * x == n * y * y + 1:
            found.append((x, y))
    return found


def least_by_trying(n):
    y = 1
    while True:
        x = isqrt(n * y * y + 1)
        if x * x == n * y * y + 1:
            return (x, y)
        y += 1


def make_pairs(n, last):
    least = least_by_trying(n)
    pairs = [(1, 0), least]
    while len(pairs) <= last:
        one, two = pairs[-2], pairs[-1]
        pairs.append((2 * least[0] * two[0] - one[0], 2 * least[0] * two[1] - one[1]))
    return pairs


# Number 20 has a y above GREATEST for every n; number 24 is 12 and 12 put together; and by number 200 they have come
# round for every n and every divisor up to 100.
PAIRS = {n: make_pairs(n, 200) for n in ALLOWED}
