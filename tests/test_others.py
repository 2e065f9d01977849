import unittest

from squarepairs.others import answers

from tests.asking import FixedList, NOT_ALLOWED, TOO_GREAT, answer_behind, ask
from tests.reckoning import (
    ABOVE, ALLOWED, BACK, BEGIN, GIVEN_COUNTS, GO, GREATEST, IS, NEXT, NTH, NUMBER, PAIR, PAIRS, pairs_by_trying,
)


class TestForm(unittest.TestCase):
    def test_each_answer_has_its_count_ahead(self):
        calls = [BEGIN, 2, PAIR, GO, 13, NUMBER, 17, 12, NUMBER, 2, 2, IS, 3, 2, ABOVE, 3]
        told = [1, 0, 3, 0, 3, 2, 1, -22, 1, 2, 1, -33, 1, 1, 3, 2, 17, 12]
        self.assertEqual(answers(calls), told)

    def test_answers_are_a_list_of_plain_whole_numbers(self):
        told = answers([BEGIN, 2, PAIR, IS, 3, 2, IS, 3, 3, NTH, 3, 2, ABOVE, 0, NUMBER, 1, 0, GO, 13])
        self.assertIs(type(told), list)
        self.assertEqual({type(number) for number in told}, {int})


class TestBegin(unittest.TestCase):
    def test_every_allowed_n(self):
        for n in ALLOWED:
            with self.subTest(n=n):
                self.assertEqual(ask((BEGIN, n), (PAIR,)), [[0], [0, *PAIRS[n][1]]])

    def test_edges_of_n(self):
        for n, least in ((2, (3, 2)), (46, (24335, 3588)), (53, (66249, 9100)), (60, (31, 4))):
            with self.subTest(n=n):
                self.assertEqual(answers([BEGIN, n, PAIR]), [1, 0, 3, 0, *least])

    def test_n_not_as_told(self):
        for n in NOT_ALLOWED:
            with self.subTest(n=n):
                self.assertEqual(answers([BEGIN, n]), [1, -22])

    def test_refused_begin_is_no_begin(self):
        for n in NOT_ALLOWED:
            with self.subTest(n=n):
                self.assertEqual(ask((BEGIN, n), (PAIR,), (BEGIN, 3), (PAIR,)), [[-22], [-11], [0], [0, 2, 1]])

    def test_begin_again_is_at_number_1_of_the_new_n(self):
        self.assertEqual(
            answer_behind(2, (GO, 5), (BEGIN, 46), (PAIR,), (BACK,), (BACK,)),
            [[0, 3363, 2378], [0], [0, 24335, 3588], [0, 1, 0], [-6]],
        )

    def test_begin_again_with_the_same_n(self):
        self.assertEqual(
            answer_behind(2, (GO, 5), (BEGIN, 2), (PAIR,), (NEXT,)),
            [[0, 3363, 2378], [0], [0, 3, 2], [0, 17, 12]],
        )

    def test_begin_again_refused_changes_nothing(self):
        for n in NOT_ALLOWED:
            with self.subTest(n=n):
                self.assertEqual(
                    answer_behind(7, (GO, 3), (BEGIN, n), (PAIR,), (IS, 8, 3), (NEXT,)),
                    [[0, *PAIRS[7][3]], [-22], [0, *PAIRS[7][3]], [1], [0, *PAIRS[7][4]]],
                )


class TestBeforeBegin(unittest.TestCase):
    def test_any_call_first(self):
        for call in range(1, 18):
            for given in (0, 1, 2, 12, 13, GREATEST):
                with self.subTest(call=call, given=given):
                    self.assertEqual(answers([call] + [given] * GIVEN_COUNTS[call]), [1, -11])

    def test_all_calls_one_behind_another(self):
        calls = []
        for call in range(1, 18):
            calls += [call] + [2] * GIVEN_COUNTS[call]
        self.assertEqual(answers(calls + [BEGIN, 2, PAIR]), [1, -11] * 17 + [1, 0, 3, 0, 3, 2])

    def test_comes_ahead_of_other_refusals(self):
        self.assertEqual(
            ask((GO, 13), (NTH, 4, 13), (NTH, 2, 1), (NUMBER, 0, 0), (BACK,)),
            [[-11]] * 5,
        )

    def test_refused_calls_leave_nothing_behind(self):
        self.assertEqual(ask((GO, 7), (NTH, 3, 2), (BEGIN, 2), (PAIR,)), [[-11], [-11], [0], [0, 3, 2]])


class TestGo(unittest.TestCase):
    def test_every_number_of_every_n(self):
        for n in ALLOWED:
            for k in range(13):
                with self.subTest(n=n, k=k):
                    pair = [0, *PAIRS[n][k]]
                    self.assertEqual(answer_behind(n, (GO, k), (PAIR,)), [pair, pair])

    def test_number_0(self):
        self.assertEqual(answer_behind(53, (GO, 0)), [[0, 1, 0]])

    def test_number_12_is_not_rounded(self):
        self.assertEqual(answer_behind(2, (GO, 12)), [[0, 768398401, 543339720]])
        self.assertEqual(answer_behind(53, (GO, 12)), [[
            0,
            14638004558174192756515754734910058198144252711386032002960001,
            2010684561194287626458037226665853273983405208352383594390800,
        ]])

    def test_number_above_12(self):
        for k in TOO_GREAT:
            with self.subTest(k=k):
                self.assertEqual(
                    answer_behind(2, (GO, 4), (GO, k), (PAIR,), (NEXT,)),
                    [[0, 577, 408], [-22], [0, 577, 408], [0, 3363, 2378]],
                )


class TestNextAndBack(unittest.TestCase):
    def test_up_to_number_12_and_no_further(self):
        for n in ALLOWED:
            with self.subTest(n=n):
                told = answer_behind(n, *[(NEXT,)] * 13, (PAIR,), (BACK,))
                pairs = [[0, *pair] for pair in PAIRS[n]]
                self.assertEqual(told, pairs[2:13] + [[-28], [-28], pairs[12], pairs[11]])

    def test_down_to_number_0_and_no_further(self):
        for n in ALLOWED:
            with self.subTest(n=n):
                told = answer_behind(n, (GO, 12), *[(BACK,)] * 14, (PAIR,), (NEXT,))
                pairs = [[0, *pair] for pair in PAIRS[n]]
                self.assertEqual(told, pairs[12::-1] + [[-6], [-6], pairs[0], pairs[1]])

    def test_next_is_kept(self):
        self.assertEqual(answer_behind(2, (NEXT,), (PAIR,)), [[0, 17, 12], [0, 17, 12]])

    def test_back_is_kept(self):
        self.assertEqual(answer_behind(2, (BACK,), (PAIR,)), [[0, 1, 0], [0, 1, 0]])

    def test_next_at_12_after_go(self):
        self.assertEqual(answer_behind(3, (GO, 12), (NEXT,))[1], [-28])
        self.assertEqual(answer_behind(3, (GO, 11), (NEXT,))[1], [0, *PAIRS[3][12]])

    def test_back_at_0_after_go(self):
        self.assertEqual(answer_behind(3, (GO, 0), (BACK,))[1], [-6])


class TestPair(unittest.TestCase):
    def test_asked_twice(self):
        self.assertEqual(answer_behind(5, (PAIR,), (PAIR,)), [[0, 9, 4], [0, 9, 4]])

    def test_number_0_and_12(self):
        self.assertEqual(answer_behind(46, (GO, 0), (PAIR,))[1], [0, 1, 0])
        self.assertEqual(answer_behind(46, (GO, 12), (PAIR,))[1], [0, *PAIRS[46][12]])


class TestNth(unittest.TestCase):
    def test_every_number_of_every_n(self):
        for n in ALLOWED:
            told = answer_behind(3, *[(NTH, n, k) for k in range(13)])
            self.assertEqual(told, [[0, *pair] for pair in PAIRS[n][:13]])

    def test_of_another_n_changes_nothing(self):
        self.assertEqual(
            answer_behind(2, (GO, 2), (NTH, 60, 1), (PAIR,), (IS, 17, 12), (NEXT,)),
            [[0, 17, 12], [0, 31, 4], [0, 17, 12], [1], [0, 99, 70]],
        )

    def test_n_not_as_told(self):
        for n in NOT_ALLOWED:
            with self.subTest(n=n):
                self.assertEqual(answer_behind(2, (NTH, n, 1), (PAIR,), (NEXT,)), [[-22], [0, 3, 2], [0, 17, 12]])

    def test_number_above_12(self):
        for k in TOO_GREAT:
            with self.subTest(k=k):
                self.assertEqual(answer_behind(2, (NTH, 3, k), (PAIR,), (NEXT,)), [[-22], [0, 3, 2], [0, 17, 12]])

    def test_neither_as_told(self):
        self.assertEqual(answer_behind(2, (NTH, 49, 13), (NTH, GREATEST, GREATEST)), [[-22], [-22]])


# Pairs x, y near to being one: what is rounded takes some of them for pairs.
def near_misses(n, x, y):
    near = [(x - 1, y), (x + 1, y), (x, y - 1), (x, y + 1), (y, x)]
    return [(u, v) for u, v in near if 0 <= u <= GREATEST and 0 <= v <= GREATEST and (u, v) not in PAIRS[n]]


class TestNumberAndIs(unittest.TestCase):
    def assert_no_pair(self, n, x, y):
        with self.subTest(n=n, x=x, y=y):
            self.assertEqual(
                answer_behind(n, (NEXT,), (NUMBER, x, y), (IS, x, y), (PAIR,), (NEXT,)),
                [[0, *PAIRS[n][2]], [-33], [0], [0, *PAIRS[n][2]], [0, *PAIRS[n][3]]],
            )

    def test_every_pair_that_can_be_handed_in(self):
        for n in ALLOWED:
            for number, (x, y) in enumerate(PAIRS[n]):
                if x <= GREATEST:
                    with self.subTest(n=n, number=number):
                        self.assertEqual(
                            answer_behind(n, (NUMBER, x, y), (IS, x, y), (PAIR,)),
                            [[number], [1], [0, *PAIRS[n][1]]],
                        )

    def test_ordinary(self):
        self.assertEqual(answer_behind(2, (NUMBER, 99, 70), (IS, 99, 70)), [[3], [1]])

    def test_1_and_0(self):
        for n in (2, 46, 53, 60):
            self.assertEqual(answer_behind(n, (NUMBER, 1, 0), (IS, 1, 0)), [[0], [1]])

    def test_number_above_12_is_told(self):
        self.assertEqual(answer_behind(3, (NUMBER, 13623482, 7865521), (IS, 13623482, 7865521)), [[13], [1]])
        self.assertEqual(answer_behind(3, (NUMBER, 2642885282, 1525870529)), [[17]])

    def test_0_and_0(self):
        for n in (2, 46, 53, 60):
            self.assert_no_pair(n, 0, 0)

    def test_0_and_1(self):
        for n in (2, 46, 53, 60):
            self.assert_no_pair(n, 0, 1)
            self.assert_no_pair(n, 1, 1)

    def test_pair_of_another_n(self):
        self.assert_no_pair(3, 3, 2)
        self.assert_no_pair(2, 2, 1)
        self.assert_no_pair(2, 66249, 9100)
        self.assert_no_pair(53, 24335, 3588)

    def test_pair_of_the_n_before_a_begin(self):
        self.assertEqual(answer_behind(2, (BEGIN, 3), (NUMBER, 3, 2), (IS, 3, 2), (IS, 2, 1)), [[0], [-33], [0], [1]])

    def test_near_misses(self):
        for n in ALLOWED:
            for x, y in PAIRS[n][1:]:
                if x <= GREATEST:
                    for u, v in near_misses(n, x, y):
                        self.assert_no_pair(n, u, v)

    def test_great_ones(self):
        self.assert_no_pair(2, GREATEST, GREATEST)
        self.assert_no_pair(2, GREATEST, 0)
        self.assert_no_pair(2, 0, GREATEST)
        self.assert_no_pair(60, GREATEST, GREATEST)
        self.assertEqual(answer_behind(2, (NUMBER, 768398401, 543339720), (IS, 768398401, 543339720)), [[12], [1]])

    def test_one_less_in_the_place_of_one_more(self):
        self.assert_no_pair(2, 1855077841, 1311738121)
        self.assert_no_pair(2, 7, 5)
        self.assert_no_pair(53, 182, 25)


class TestAbove(unittest.TestCase):
    def test_bound_of_nothing(self):
        for n in ALLOWED:
            self.assertEqual(answer_behind(n, (ABOVE, 0)), [[0, 1, 0]])

    def test_bound_of_1(self):
        for n in ALLOWED:
            self.assertEqual(answer_behind(n, (ABOVE, 1)), [[1, *PAIRS[n][1]]])

    def test_round_each_y(self):
        for n in ALLOWED:
            for number in range(1, 20):
                y = PAIRS[n][number][1]
                if y < GREATEST:
                    with self.subTest(n=n, number=number):
                        this = [number, *PAIRS[n][number]]
                        following = [number + 1, *PAIRS[n][number + 1]]
                        self.assertEqual(
                            answer_behind(n, (ABOVE, y), (ABOVE, y + 1)),
                            [this, following],
                        )

    def test_one_less_than_a_y(self):
        self.assertEqual(answer_behind(2, (ABOVE, 11), (ABOVE, 69)), [[2, 17, 12], [3, 99, 70]])

    def test_greatest_bound(self):
        self.assertEqual(answer_behind(2, (ABOVE, GREATEST)), [[14, 26102926097, 18457556052]])
        self.assertEqual(answer_behind(3, (ABOVE, GREATEST)), [[18, 9863382151, 5694626340]])
        self.assertEqual(answer_behind(53, (ABOVE, GREATEST)), [[3, 1163048894346249, 159757052027300]])

    def test_greatest_bound_of_every_n(self):
        for n in ALLOWED:
            number = min(k for k in range(21) if PAIRS[n][k][1] >= GREATEST)
            self.assertEqual(answer_behind(n, (ABOVE, GREATEST)), [[number, *PAIRS[n][number]]])

    def test_changes_nothing(self):
        self.assertEqual(
            answer_behind(3, (ABOVE, GREATEST), (PAIR,), (NEXT,), (ABOVE, 0), (PAIR,))[1:],
            [[0, 2, 1], [0, 7, 4], [0, 1, 0], [0, 7, 4]],
        )


class TestAllOthers(unittest.TestCase):
    def test_none_lies_between(self):
        for n in ALLOWED:
            found = pairs_by_trying(n, 3000)
            self.assertEqual(found, [pair for pair in PAIRS[n] if pair[1] <= 3000])
            told = answer_behind(n, *[(NUMBER, x, y) for x, y in found])
            self.assertEqual(told, [[number] for number in range(len(found))])


class TestWhole(unittest.TestCase):
    calls = [BEGIN, 2, GO, 7, NEXT, BACK, NTH, 3, 2, NUMBER, 3, 2, IS, 3, 3, ABOVE, 100, GO, 13, BEGIN, 4, PAIR]

    def test_a_list_of_80_calls(self):
        round_trip = [(NEXT,)] * 12 + [(BACK,)] * 13
        told = ask((BEGIN, 46), *round_trip * 3, (PAIR,), (IS, 1, 0), (NUMBER, 24335, 3588), (ABOVE, 1))
        pairs = [[0, *pair] for pair in PAIRS[46]]
        down = pairs[11::-1] + [[-6]]
        first = pairs[2:13] + [[-28]] + down
        again = pairs[1:13] + down
        self.assertEqual(len(told), 80)
        self.assertEqual(told, [[0]] + first + again + again + [pairs[0], [1], [1], [1, 24335, 3588]])

    def test_80_calls_of_two_numbers_each(self):
        told = answer_behind(53, *[(NTH, 53, 12)] * 79)
        self.assertEqual(told, [[0, *PAIRS[53][12]]] * 79)

    def test_80_begins(self):
        self.assertEqual(answers([BEGIN, 53, BEGIN, 49] * 40), [1, 0, 1, -22] * 40)

    def test_what_is_handed_in_stays(self):
        handed_in = list(self.calls)
        answers(handed_in)
        self.assertEqual(handed_in, self.calls)

    def test_what_is_handed_in_is_not_changed_for_a_while_either(self):
        self.assertEqual(answers(FixedList(self.calls)), answers(self.calls))

    def test_what_is_given_back_is_another_list(self):
        told = answers(self.calls)
        kept = list(told)
        told.clear()
        self.assertEqual(answers(self.calls), kept)

    def test_twice_alike(self):
        self.assertEqual(answers(self.calls), answers(self.calls))

    def test_each_list_has_a_new_object(self):
        answers([BEGIN, 2, GO, 5])
        self.assertEqual(answers([PAIR]), [1, -11])
        answers([BEGIN, 2, GO, 5])
        self.assertEqual(answers([BEGIN, 3, PAIR]), [1, 0, 3, 0, 2, 1])


if __name__ == "__main__":
    unittest.main()
