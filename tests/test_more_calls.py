import math
import unittest

from squarepairs.others import answers

from tests.asking import FixedList, NOT_ALLOWED, TOO_GREAT, answer_behind, ask
from tests.reckoning import (
    ABOVE, ALLOWED, BACK, BEGIN, COMMON, DIVIDES, GIVEN_COUNTS, GO, GREATEST, IS, LEFT, MANY, NEXT, NTH, NUMBER,
    PAIR, PAIRS, ROOT, ROUND, RULE, TOGETHER, TOLD,
)

NUMBERS = range(13)
CORNERS = (2, 46, 53)

# Behind a begin those of the first row are answered and those of the second are refused with -22, whatever the n.
ANSWERED = (
    (MANY, 0), (MANY, 12), (MANY, GREATEST), (DIVIDES, 1, 0), (DIVIDES, 2, 3), (DIVIDES, 3, 12), (COMMON, 0, 0),
    (COMMON, 0, 5), (COMMON, 8, 12), (TOGETHER, 0, 0), (TOGETHER, 3, 4), (TOGETHER, 12, 12), (RULE, 2), (RULE, 12),
    (ROOT, 1, 0), (ROOT, 5, 1000), (ROOT, 12, 1000000), (LEFT, 1, 12), (LEFT, 10, 3), (LEFT, 1000, 0), (ROUND, 1),
    (ROUND, 7), (ROUND, 100), (TOLD,),
)
REFUSED = (
    (DIVIDES, 0, 0), (DIVIDES, 0, 3), (DIVIDES, 0, 13), (DIVIDES, 13, 1), (DIVIDES, 1, 13), (DIVIDES, 13, 13),
    (DIVIDES, GREATEST, 1), (DIVIDES, 1, GREATEST), (DIVIDES, 0, GREATEST), (COMMON, 13, 1), (COMMON, 1, 13),
    (COMMON, 13, 0), (COMMON, 0, 13), (COMMON, 13, 13), (COMMON, GREATEST, 1), (COMMON, 1, GREATEST),
    (TOGETHER, 13, 1), (TOGETHER, 1, 13), (TOGETHER, 13, 0), (TOGETHER, 0, 13), (TOGETHER, 13, 13),
    (TOGETHER, GREATEST, 1), (TOGETHER, 1, GREATEST), (RULE, 0), (RULE, 1), (RULE, 13), (RULE, GREATEST),
    (ROOT, 0, 0), (ROOT, 0, 1), (ROOT, 0, 1000000), (ROOT, 13, 0), (ROOT, 13, 1), (ROOT, GREATEST, 1),
    (ROOT, 1, 1000001), (ROOT, 12, 1000001), (ROOT, 1, GREATEST), (ROOT, 0, 1000001), (ROOT, 13, 1000001),
    (LEFT, 0, 0), (LEFT, 0, 12), (LEFT, 1001, 0), (LEFT, 1001, 12), (LEFT, GREATEST, 1), (LEFT, 1, 13),
    (LEFT, 1000, 13), (LEFT, 1, GREATEST), (LEFT, 0, 13), (LEFT, 1001, 13), (ROUND, 0), (ROUND, 101),
    (ROUND, 1000), (ROUND, GREATEST),
)


class TestMany(unittest.TestCase):
    def test_ordinary(self):
        self.assertEqual(answer_behind(2, (MANY, 100)), [[4]])

    def test_bound_of_nothing(self):
        for n in ALLOWED:
            self.assertEqual(answer_behind(n, (MANY, 0)), [[1]])

    def test_bound_of_1(self):
        self.assertEqual(answer_behind(2, (MANY, 1)), [[1]])
        self.assertEqual(answer_behind(3, (MANY, 1)), [[2]])
        for n in ALLOWED:
            self.assertEqual(answer_behind(n, (MANY, 1)), [[2 if PAIRS[n][1][1] == 1 else 1]])

    def test_round_each_y(self):
        for n in ALLOWED:
            for number in range(1, 20):
                y = PAIRS[n][number][1]
                if y < GREATEST:
                    with self.subTest(n=n, number=number):
                        told = answer_behind(n, (MANY, y - 1), (MANY, y), (MANY, y + 1))
                        self.assertEqual(told, [[number], [number + 1], [number + 1]])

    def test_greatest_bound(self):
        for n, many in ((2, 14), (3, 18), (46, 3), (53, 3)):
            self.assertEqual(answer_behind(n, (MANY, GREATEST)), [[many]])

    def test_greatest_bound_of_every_n(self):
        for n in ALLOWED:
            many = len([y for x, y in PAIRS[n] if y <= GREATEST])
            self.assertEqual(answer_behind(n, (MANY, GREATEST)), [[many]])


class TestDivides(unittest.TestCase):
    def test_ordinary(self):
        self.assertEqual(
            answer_behind(2, (DIVIDES, 2, 4), (DIVIDES, 4, 2), (DIVIDES, 2, 3), (DIVIDES, 5, 10)),
            [[1], [0], [0], [1]],
        )

    def test_every_two_of_every_n(self):
        for n in ALLOWED:
            for j in NUMBERS[1:]:
                told = answer_behind(n, *[(DIVIDES, j, k) for k in NUMBERS])
                self.assertEqual(told, [[int(PAIRS[n][k][1] % PAIRS[n][j][1] == 0)] for k in NUMBERS])

    def test_edges(self):
        for n in CORNERS:
            self.assertEqual(
                answer_behind(n, (DIVIDES, 1, 0), (DIVIDES, 12, 0), (DIVIDES, 1, 1), (DIVIDES, 1, 12)),
                [[1], [1], [1], [1]],
            )
            self.assertEqual(answer_behind(n, (DIVIDES, 12, 1), (DIVIDES, 12, 12)), [[0], [1]])

    def test_j_of_0(self):
        for k in (0, 1, 12, 13, GREATEST):
            self.assertEqual(answer_behind(2, (DIVIDES, 0, k)), [[-22]])

    def test_number_above_12(self):
        for great in TOO_GREAT:
            for k in (0, 1, 12, 13):
                self.assertEqual(answer_behind(53, (DIVIDES, great, k)), [[-22]])
            for j in (0, 1, 12, 13):
                self.assertEqual(answer_behind(53, (DIVIDES, j, great)), [[-22]])


class TestCommon(unittest.TestCase):
    def test_ordinary(self):
        self.assertEqual(answer_behind(2, (COMMON, 4, 6), (COMMON, 3, 4)), [[0, 12], [0, 2]])

    def test_every_two_of_every_n(self):
        for n in ALLOWED:
            for j in NUMBERS:
                told = answer_behind(n, *[(COMMON, j, k) for k in NUMBERS])
                self.assertEqual(told, [[0, math.gcd(PAIRS[n][j][1], PAIRS[n][k][1])] for k in NUMBERS])

    def test_of_nothing(self):
        for n in ALLOWED:
            self.assertEqual(answer_behind(n, (COMMON, 0, 0)), [[0, 0]])

    def test_of_nothing_and_another(self):
        self.assertEqual(answer_behind(2, (COMMON, 0, 3), (COMMON, 3, 0)), [[0, 70], [0, 70]])
        for n in CORNERS:
            for k in NUMBERS:
                y = PAIRS[n][k][1]
                self.assertEqual(answer_behind(n, (COMMON, 0, k), (COMMON, k, 0)), [[0, y], [0, y]])

    def test_of_12_and_12(self):
        self.assertEqual(answer_behind(2, (COMMON, 12, 12)), [[0, 543339720]])
        self.assertEqual(
            answer_behind(53, (COMMON, 12, 12)),
            [[0, 2010684561194287626458037226665853273983405208352383594390800]],
        )

    def test_number_above_12(self):
        for great in TOO_GREAT:
            for other in (0, 1, 12, 13):
                self.assertEqual(answer_behind(46, (COMMON, great, other), (COMMON, other, great)), [[-22], [-22]])


class TestTogether(unittest.TestCase):
    def test_ordinary(self):
        self.assertEqual(answer_behind(2, (TOGETHER, 1, 2), (TOGETHER, 3, 1)), [[0, 99, 70], [0, 577, 408]])

    def test_every_two_of_every_n(self):
        for n in ALLOWED:
            for j in NUMBERS:
                told = answer_behind(n, *[(TOGETHER, j, k) for k in NUMBERS])
                self.assertEqual(told, [[0, *PAIRS[n][j + k]] for k in NUMBERS])

    def test_of_0_and_0(self):
        for n in ALLOWED:
            self.assertEqual(answer_behind(n, (TOGETHER, 0, 0)), [[0, 1, 0]])

    def test_of_12_and_12(self):
        self.assertEqual(
            answer_behind(2, (TOGETHER, 12, 12)),
            [[0, 1180872205318713601, 835002744095575440]],
        )
        for n in ALLOWED:
            x, y = PAIRS[n][12]
            told = answer_behind(n, (TOGETHER, 12, 12))
            self.assertEqual(told, [[0, x * x + n * y * y, 2 * x * y]])

    def test_number_above_12(self):
        for great in TOO_GREAT:
            for other in (0, 1, 12, 13):
                told = answer_behind(2, (TOGETHER, great, other), (TOGETHER, other, great))
                self.assertEqual(told, [[-22], [-22]])


class TestRule(unittest.TestCase):
    def test_ordinary(self):
        self.assertEqual(answer_behind(2, (RULE, 3), (RULE, 5)), [[0, 99, 70], [0, 3363, 2378]])

    def test_number_2(self):
        for n in ALLOWED:
            x, y = PAIRS[n][1]
            self.assertEqual(answer_behind(n, (RULE, 2)), [[0, 2 * x * x - 1, 2 * x * y]])

    def test_number_12(self):
        self.assertEqual(answer_behind(2, (RULE, 12)), [[0, 768398401, 543339720]])
        for n in ALLOWED:
            self.assertEqual(answer_behind(n, (RULE, 12)), [[0, *PAIRS[n][12]]])

    def test_number_below_2(self):
        for n in CORNERS:
            self.assertEqual(answer_behind(n, (RULE, 0), (RULE, 1)), [[-22], [-22]])

    def test_number_above_12(self):
        for great in TOO_GREAT:
            self.assertEqual(answer_behind(2, (RULE, great)), [[-22]])


class TestRoot(unittest.TestCase):
    def test_ordinary(self):
        self.assertEqual(
            answer_behind(2, (ROOT, 3, 50), (ROOT, 12, 1000), (ROOT, 1, 100)),
            [[0, 70, 70], [0, 1414, 1414], [0, 150, 141]],
        )

    def test_every_number_of_every_n(self):
        for n in ALLOWED:
            for b in (0, 1, 2, 3, 99, 1000, 65536, 999999, 1000000):
                told = answer_behind(n, *[(ROOT, k, b) for k in NUMBERS[1:]])
                wanted = [[0, b * x // y, math.isqrt(n * b * b)] for x, y in PAIRS[n][1:13]]
                self.assertEqual(told, wanted)

    def test_every_small_b(self):
        for n in CORNERS:
            x, y = PAIRS[n][1]
            for b in range(400):
                told = answer_behind(n, (ROOT, 1, b))
                self.assertEqual(told, [[0, b * x // y, math.isqrt(n * b * b)]])

    def test_b_of_0_and_1(self):
        for n in CORNERS:
            for k in (1, 12):
                down = math.isqrt(n)
                self.assertEqual(answer_behind(n, (ROOT, k, 0), (ROOT, k, 1)), [[0, 0, 0], [0, down, down]])

    def test_b_of_a_million(self):
        self.assertEqual(
            answer_behind(2, (ROOT, 1, 1000000), (ROOT, 12, 1000000)),
            [[0, 1500000, 1414213], [0, 1414213, 1414213]],
        )
        self.assertEqual(answer_behind(53, (ROOT, 12, 1000000)), [[0, 7280109, 7280109]])

    def test_b_above_a_million(self):
        for b in (1000001, 1000002, GREATEST):
            for k in (0, 1, 12, 13):
                self.assertEqual(answer_behind(2, (ROOT, k, b)), [[-22]])

    def test_number_0(self):
        for b in (0, 1, 1000000, 1000001, GREATEST):
            self.assertEqual(answer_behind(2, (ROOT, 0, b)), [[-22]])

    def test_number_above_12(self):
        for great in TOO_GREAT:
            for b in (0, 1, 1000000, 1000001):
                self.assertEqual(answer_behind(46, (ROOT, great, b)), [[-22]])


class TestLeft(unittest.TestCase):
    def test_ordinary(self):
        self.assertEqual(answer_behind(2, (LEFT, 10, 3), (LEFT, 7, 4)), [[0, 9, 0], [0, 3, 2]])

    def test_every_number_of_every_n(self):
        for n in ALLOWED:
            for m in (1, 2, 3, 10, 97, 101, 256, 999, 1000):
                told = answer_behind(n, *[(LEFT, m, k) for k in NUMBERS])
                self.assertEqual(told, [[0, x % m, y % m] for x, y in PAIRS[n][:13]])

    def test_every_m(self):
        for n in CORNERS:
            x, y = PAIRS[n][12]
            for m in range(1, 1001):
                self.assertEqual(answer_behind(n, (LEFT, m, 12)), [[0, x % m, y % m]])

    def test_divided_by_1(self):
        for n in CORNERS:
            for k in (0, 1, 12):
                self.assertEqual(answer_behind(n, (LEFT, 1, k)), [[0, 0, 0]])

    def test_divided_by_1000(self):
        self.assertEqual(answer_behind(2, (LEFT, 1000, 12), (LEFT, 1000, 0)), [[0, 401, 720], [0, 1, 0]])

    def test_number_0(self):
        for m in (2, 3, 999, 1000):
            self.assertEqual(answer_behind(53, (LEFT, m, 0)), [[0, 1, 0]])

    def test_m_not_as_told(self):
        for m in (0, 1001, 1002, GREATEST):
            for k in (0, 12, 13, GREATEST):
                self.assertEqual(answer_behind(2, (LEFT, m, k)), [[-22]])

    def test_number_above_12(self):
        for great in TOO_GREAT:
            for m in (0, 1, 1000, 1001):
                self.assertEqual(answer_behind(2, (LEFT, m, great)), [[-22]])


class TestRound(unittest.TestCase):
    def test_ordinary(self):
        # Divided by 3, of n = 2: 1, 0; 0, 2; 2, 0; 0, 1; 1, 0.
        self.assertEqual(answer_behind(2, (ROUND, 3)), [[4]])

    def test_divided_by_1(self):
        for n in ALLOWED:
            self.assertEqual(answer_behind(n, (ROUND, 1)), [[1]])

    def test_divided_by_2(self):
        self.assertEqual(answer_behind(2, (ROUND, 2)), [[1]])
        self.assertEqual(answer_behind(3, (ROUND, 2)), [[2]])

    def test_every_m_of_every_n(self):
        for n in ALLOWED:
            for m in range(1, 101):
                start = (1 % m, 0)
                many = min(k for k in range(1, 200) if (PAIRS[n][k][0] % m, PAIRS[n][k][1] % m) == start)
                with self.subTest(n=n, m=m):
                    self.assertEqual(answer_behind(n, (ROUND, m)), [[many]])

    def test_behind_more_than_12(self):
        self.assertEqual(answer_behind(30, (ROUND, 81)), [[162]])

    def test_m_not_as_told(self):
        for m in (0, 101, 102, 1000, GREATEST):
            self.assertEqual(answer_behind(2, (ROUND, m)), [[-22]])


class TestTold(unittest.TestCase):
    def test_at_once_behind_a_begin(self):
        for n in ALLOWED:
            self.assertEqual(answer_behind(n, (TOLD,)), [[n, 1]])

    def test_behind_go(self):
        for n in CORNERS:
            for k in NUMBERS:
                self.assertEqual(answer_behind(n, (GO, k), (TOLD,))[1], [n, k])

    def test_behind_next_and_back(self):
        told = answer_behind(7, (NEXT,), (TOLD,), (NEXT,), (TOLD,), (BACK,), (TOLD,), (BACK,), (BACK,), (TOLD,))
        self.assertEqual([told[at] for at in (1, 3, 5, 8)], [[7, 2], [7, 3], [7, 2], [7, 0]])

    def test_behind_another_begin(self):
        self.assertEqual(answer_behind(7, (GO, 5), (BEGIN, 46), (TOLD,))[1:], [[0], [46, 1]])

    def test_behind_a_refused_begin(self):
        for n in NOT_ALLOWED:
            self.assertEqual(answer_behind(7, (GO, 5), (BEGIN, n), (TOLD,))[1:], [[-22], [7, 5]])
            self.assertEqual(ask((BEGIN, n), (TOLD,)), [[-22], [-11]])

    def test_behind_each_refused_call(self):
        for call in REFUSED + ((GO, 13), (GO, GREATEST), (NTH, 4, 1), (NTH, 2, 13)):
            with self.subTest(call=call):
                self.assertEqual(answer_behind(7, (GO, 5), call, (TOLD,))[1:], [[-22], [7, 5]])
        self.assertEqual(answer_behind(7, (GO, 5), (NUMBER, 0, 0), (TOLD,))[1:], [[-33], [7, 5]])

    def test_behind_a_refused_next_or_back(self):
        self.assertEqual(answer_behind(7, (GO, 12), (NEXT,), (TOLD,))[1:], [[-28], [7, 12]])
        self.assertEqual(answer_behind(7, (GO, 0), (BACK,), (TOLD,))[1:], [[-6], [7, 0]])

    def test_behind_calls_that_came_before_a_begin(self):
        self.assertEqual(ask((GO, 5), (TOLD,), (NEXT,), (BEGIN, 7), (TOLD,)), [[-11], [-11], [-11], [0], [7, 1]])


class TestBeforeBegin(unittest.TestCase):
    def test_each_call_first(self):
        for call in ANSWERED + REFUSED:
            with self.subTest(call=call):
                self.assertEqual(ask(call), [[-11]])

    def test_each_call_behind_a_refused_begin(self):
        for call in ANSWERED + REFUSED:
            with self.subTest(call=call):
                self.assertEqual(ask((BEGIN, 49), call, (BEGIN, 2), (TOLD,)), [[-22], [-11], [0], [2, 1]])


class TestNothingChanges(unittest.TestCase):
    def test_refused_calls(self):
        for call in REFUSED:
            with self.subTest(call=call):
                self.assertEqual(
                    answer_behind(46, (GO, 3), call, (TOLD,), (PAIR,), (NEXT,))[1:],
                    [[-22], [46, 3], [0, *PAIRS[46][3]], [0, *PAIRS[46][4]]],
                )

    def test_answered_calls(self):
        for call in ANSWERED:
            for number in (0, 3, 12):
                with self.subTest(call=call, number=number):
                    told = answer_behind(46, (GO, number), call, (TOLD,), (PAIR,), (NTH, 46, number))[1:]
                    self.assertGreaterEqual(told[0][0], 0)
                    pair = [0, *PAIRS[46][number]]
                    self.assertEqual(told[1:], [[46, number], pair, pair])

    def test_answers_hang_on_n_alone(self):
        for call in ANSWERED[:-1]:
            with self.subTest(call=call):
                at_once = answer_behind(53, call)
                self.assertEqual(answer_behind(53, (GO, 12), call)[1:], at_once)
                self.assertEqual(answer_behind(2, (GO, 0), (BEGIN, 53), call)[2:], at_once)


class TestWhatHolds(unittest.TestCase):
    def test_common_is_the_y_of_the_common_number(self):
        for n in ALLOWED:
            for j in NUMBERS:
                for k in NUMBERS:
                    common, nth = answer_behind(n, (COMMON, j, k), (NTH, n, math.gcd(j, k)))
                    self.assertEqual(common[1], nth[2])

    def test_divides_where_the_number_divides(self):
        for n in ALLOWED:
            for j in NUMBERS[1:]:
                told = answer_behind(n, *[(DIVIDES, j, k) for k in NUMBERS])
                self.assertEqual(told, [[int(k % j == 0)] for k in NUMBERS])

    def test_each_is_told_by_the_two_before_it(self):
        for n in ALLOWED:
            for k in NUMBERS[2:]:
                rule, nth, together = answer_behind(n, (RULE, k), (NTH, n, k), (TOGETHER, k - 1, 1))
                self.assertEqual(rule, nth)
                self.assertEqual(together, nth)

    def test_they_come_round(self):
        for n in ALLOWED:
            for m in range(1, 101):
                told = answer_behind(n, (ROUND, m), *[(LEFT, m, k) for k in NUMBERS])
                many = told[0][0]
                self.assertGreaterEqual(many, 1)
                again = [k for k in NUMBERS if told[1 + k] == told[1]]
                self.assertEqual(again, [k for k in NUMBERS if k % many == 0])

    def test_root_is_told_for_less_than_the_y(self):
        for n in ALLOWED:
            for k in NUMBERS[1:]:
                y = PAIRS[n][k][1]
                below = {0, y // 3, y // 2, y - 2, y - 1, 1000000, 999999}
                for b in sorted(b for b in below if 0 <= b < y and b <= 1000000):
                    told = answer_behind(n, (ROOT, k, b))[0]
                    self.assertEqual(told[1], told[2])

    def test_root_is_not_told_for_the_y_itself(self):
        for n in ALLOWED:
            for k in NUMBERS[1:]:
                x, y = PAIRS[n][k]
                if y <= 1000000:
                    self.assertEqual(answer_behind(n, (ROOT, k, y)), [[0, x, x - 1]])

    def test_many_is_the_number_of_the_first_above(self):
        for n in ALLOWED:
            for b in (0, 1, 2, 12, 3588, 9100, GREATEST - 1):
                many, above = answer_behind(n, (MANY, b), (ABOVE, b + 1))
                self.assertEqual(many[0], above[0])


class TestForm(unittest.TestCase):
    def test_how_many_numbers_each_call_answers(self):
        calls = [
            BEGIN, 2, MANY, 12, DIVIDES, 1, 2, DIVIDES, 2, 1, COMMON, 2, 4, TOGETHER, 1, 1, RULE, 2, ROOT, 2, 10,
            LEFT, 5, 2, ROUND, 5, TOLD,
        ]
        told = [
            1, 0, 1, 3, 1, 1, 1, 0, 2, 0, 12, 3, 0, 17, 12, 3, 0, 17, 12, 3, 0, 14, 14,
            3, 0, 2, 2, 1, 6, 2, 2, 1,
        ]
        self.assertEqual(answers(calls), told)

    def test_answers_are_plain_whole_numbers(self):
        for call in ANSWERED + REFUSED:
            told = answers([BEGIN, 53, *call])
            self.assertEqual({type(number) for number in told}, {int})

    def test_only_refusals_are_below_0(self):
        for n in ALLOWED:
            for told in answer_behind(n, *ANSWERED):
                self.assertGreaterEqual(min(told), 0)
            self.assertEqual(answer_behind(n, *REFUSED), [[-22]] * len(REFUSED))


class TestWhole(unittest.TestCase):
    every = (
        (PAIR,), (BEGIN, 4), (BEGIN, 2), (GO, 11), (NEXT,), (NEXT,), (BACK,), (PAIR,), (NTH, 3, 2), (NUMBER, 3, 2),
        (IS, 3, 3), (ABOVE, 100), (MANY, 100), (DIVIDES, 2, 4), (COMMON, 4, 6), (TOGETHER, 1, 2), (RULE, 3),
        (ROOT, 3, 50), (LEFT, 10, 3), (ROUND, 3), (TOLD,), (GO, 0), (BACK,), (NUMBER, 0, 0), (RULE, 1), (TOLD,),
    )
    every_told = [
        [-11], [-22], [0], [0, 131836323, 93222358], [0, 768398401, 543339720], [-28], [0, 131836323, 93222358],
        [0, 131836323, 93222358], [0, 7, 4], [1], [0], [4, 577, 408], [4], [1], [0, 12], [0, 99, 70], [0, 99, 70],
        [0, 70, 70], [0, 9, 0], [4], [2, 11], [0, 1, 0], [-6], [-33], [-22], [2, 0],
    ]

    def test_a_list_of_80_calls_with_every_call_in_it(self):
        calls = self.every * 3 + ((BEGIN, 53), (TOLD,))
        # The second and the third time there was a begin before.
        again = [[0, 1, 0]] + self.every_told[1:]
        told = ask(*calls)
        self.assertEqual({call[0] for call in calls}, set(range(18)))
        self.assertEqual(len(told), 80)
        self.assertEqual(told, self.every_told + again + again + [[0], [53, 1]])

    def test_80_times_each_call(self):
        for call in ANSWERED:
            told = answer_behind(53, *[call] * 79)
            self.assertEqual(told, answer_behind(53, call) * 79)

    def test_each_call_of_every_number_behind_a_begin(self):
        for call in range(18):
            for given in (0, 1, 2, 12, 13, GREATEST):
                told = answers([BEGIN, 46, call] + [given] * GIVEN_COUNTS[call])
                self.assertEqual(len(told), 3 + told[2])

    def test_what_is_handed_in_stays(self):
        calls = [number for call in self.every for number in call]
        kept = list(calls)
        told = answers(calls)
        self.assertEqual(calls, kept)
        self.assertEqual(answers(FixedList(kept)), told)

    def test_twice_alike(self):
        calls = [number for call in self.every for number in call]
        first = answers(calls)
        second = answers(calls)
        self.assertEqual(first, second)
        self.assertIsNot(first, second)

    def test_nothing_is_kept(self):
        answers([BEGIN, 2, GO, 5])
        self.assertEqual(answers([TOLD]), [1, -11])
        self.assertEqual(answers([BEGIN, 3, TOLD]), [1, 0, 2, 3, 1])


if __name__ == "__main__":
    unittest.main()
