"""All pairs x, y of an n whose x times x is just 1 more than n times y times y.

What is called from outside is answers(calls); all else here serves it.
"""

NOT_BEGUN = -11
NOT_AS_TOLD = -22
AT_THE_LAST = -28
AT_THE_FIRST = -6
NO_PAIR = -33

LEAST_N = 2
GREATEST_N = 60
SQUARES = (4, 9, 16, 25, 36, 49)

LAST_NUMBER = 12

GREATEST_TIMES = 1000000
GREATEST_DIVISOR = 1000
GREATEST_ROUND_DIVISOR = 100

BEGIN = 0


class Walk:
    # No allowed n is 0, so an n of 0 says that there was no begin yet.
    def __init__(self):
        self.n = 0
        self.number = 0


def is_allowed(n):
    return LEAST_N <= n <= GREATEST_N and n not in SQUARES


def is_pair(n, x, y):
    return x * x == n * y * y + 1


def put_together(n, one, other):
    x = one[0] * other[0] + n * one[1] * other[1]
    y = one[0] * other[1] + one[1] * other[0]
    return (x, y)


# A pair's x over its y is nearer to n's root than any fraction with a smaller denominator. So splitting the
# gap round the root, again and again, at the fraction between its ends passes over no pair; and as the
# denominators never shrink on the way, the pair with the least y is met first.
def least_pair(n):
    low = (0, 1)
    high = (1, 0)
    between = (1, 1)
    while not is_pair(n, between[0], between[1]):
        if between[0] * between[0] < n * between[1] * between[1]:
            low = between
        else:
            high = between
        between = (low[0] + high[0], low[1] + high[1])
    return between


def pair_numbered(n, number):
    least = least_pair(n)
    pair = (1, 0)
    for step in range(number):
        pair = put_together(n, pair, least)
    return pair


# LAST_NUMBER bounds the numbers that are asked for, not this one that is found.
def first_number(n, bound):
    least = least_pair(n)
    pair = (1, 0)
    number = 0
    while pair[1] < bound:
        pair = put_together(n, pair, least)
        number += 1
    return number


def greatest_common(one, other):
    while other > 0:
        rest = one % other
        one = other
        other = rest
    return one


def root_rounded_down(square):
    low = 0
    high = square + 1
    while high - low > 1:
        middle = (low + high) // 2
        if middle * middle <= square:
            low = middle
        else:
            high = middle
    return low


def left_of(pair, divisor):
    return (pair[0] % divisor, pair[1] % divisor)


# What is left of two put together hangs only on what is left of each, so the numbers can be kept small. The
# loop ends: putting together with the least pair can be undone, so the first to come again is 1, 0 itself.
def steps_round(n, divisor):
    least = left_of(least_pair(n), divisor)
    start = left_of((1, 0), divisor)
    pair = least
    steps = 1
    while pair != start:
        pair = left_of(put_together(n, pair, least), divisor)
        steps += 1
    return steps


def go_to(walk, number):
    walk.number = number
    return [0] + list(pair_numbered(walk.n, number))


def begin(walk, given):
    if not is_allowed(given[0]):
        return [NOT_AS_TOLD]
    walk.n = given[0]
    walk.number = 1
    return [0]


def go(walk, given):
    if given[0] > LAST_NUMBER:
        return [NOT_AS_TOLD]
    return go_to(walk, given[0])


def go_on(walk, given):
    if walk.number == LAST_NUMBER:
        return [AT_THE_LAST]
    return go_to(walk, walk.number + 1)


def go_back(walk, given):
    if walk.number == 0:
        return [AT_THE_FIRST]
    return go_to(walk, walk.number - 1)


def tell_pair(walk, given):
    return [0] + list(pair_numbered(walk.n, walk.number))


def tell_nth(walk, given):
    if given[1] > LAST_NUMBER or not is_allowed(given[0]):
        return [NOT_AS_TOLD]
    return [0] + list(pair_numbered(given[0], given[1]))


# The y of a pair grows with its number, so a pair is itself the first whose y is no less than its own.
def tell_number(walk, given):
    if not is_pair(walk.n, given[0], given[1]):
        return [NO_PAIR]
    return [first_number(walk.n, given[1])]


def tell_whether_pair(walk, given):
    if is_pair(walk.n, given[0], given[1]):
        return [1]
    return [0]


def tell_above(walk, given):
    number = first_number(walk.n, given[0])
    return [number] + list(pair_numbered(walk.n, number))


def tell_many(walk, given):
    return [first_number(walk.n, given[0] + 1)]


def tell_whether_divides(walk, given):
    if max(given) > LAST_NUMBER or given[0] == 0:
        return [NOT_AS_TOLD]
    divisor = pair_numbered(walk.n, given[0])[1]
    if pair_numbered(walk.n, given[1])[1] % divisor == 0:
        return [1]
    return [0]


def tell_common(walk, given):
    if max(given) > LAST_NUMBER:
        return [NOT_AS_TOLD]
    one = pair_numbered(walk.n, given[0])
    other = pair_numbered(walk.n, given[1])
    return [0, greatest_common(one[1], other[1])]


def tell_together(walk, given):
    if max(given) > LAST_NUMBER:
        return [NOT_AS_TOLD]
    one = pair_numbered(walk.n, given[0])
    other = pair_numbered(walk.n, given[1])
    return [0] + list(put_together(walk.n, one, other))


def tell_rule(walk, given):
    if given[0] > LAST_NUMBER or given[0] < 2:
        return [NOT_AS_TOLD]
    twice = 2 * least_pair(walk.n)[0]
    before = pair_numbered(walk.n, given[0] - 1)
    before_that = pair_numbered(walk.n, given[0] - 2)
    return [0, twice * before[0] - before_that[0], twice * before[1] - before_that[1]]


def tell_root(walk, given):
    if given[0] > LAST_NUMBER or given[0] == 0 or given[1] > GREATEST_TIMES:
        return [NOT_AS_TOLD]
    pair = pair_numbered(walk.n, given[0])
    times = given[1]
    return [0, times * pair[0] // pair[1], root_rounded_down(walk.n * times * times)]


def tell_left(walk, given):
    if given[1] > LAST_NUMBER or not 1 <= given[0] <= GREATEST_DIVISOR:
        return [NOT_AS_TOLD]
    return [0] + list(left_of(pair_numbered(walk.n, given[1]), given[0]))


def tell_round(walk, given):
    if not 1 <= given[0] <= GREATEST_ROUND_DIVISOR:
        return [NOT_AS_TOLD]
    return [steps_round(walk.n, given[0])]


def tell_where(walk, given):
    return [walk.n, walk.number]


# A call's number is its place in both rows.
GIVEN_COUNTS = (1, 1, 0, 0, 0, 2, 2, 2, 1, 1, 2, 2, 2, 1, 2, 2, 1, 0)
ANSWERERS = (
    begin, go, go_on, go_back, tell_pair, tell_nth, tell_number, tell_whether_pair, tell_above,
    tell_many, tell_whether_divides, tell_common, tell_together, tell_rule,
    tell_root, tell_left, tell_round, tell_where,
)


def answer_call(walk, call, given):
    if call != BEGIN and walk.n == 0:
        return [NOT_BEGUN]
    return ANSWERERS[call](walk, given)


def answers(calls):
    walk = Walk()
    told = []
    at = 0
    while at < len(calls):
        call = calls[at]
        end = at + 1 + GIVEN_COUNTS[call]
        answer = answer_call(walk, call, calls[at + 1:end])
        told.append(len(answer))
        told.extend(answer)
        at = end
    return told
