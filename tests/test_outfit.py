"""Promise 4: promote. Promise 5: dress, most."""

import unittest

from tests.calls import (HUGE, back, begin, board, check, days, dress, fits, fly, gear, give, join, jumper, kind, last,
                         look, may, most, off, pack, promote, school, seen, state, tail, told, told_of, wind)


class Promote(unittest.TestCase):
    def test_how_many_jumps_the_next_licence_needs(self):
        for licence, need in ((0, 10), (1, 50), (2, 200)):
            with self.subTest(licence=licence):
                self.assertEqual(last(school([(licence, need - 1, 80)]) + [promote(0)]), [-62])
                self.assertEqual(last(school([(licence, need, 80)]) + [promote(0)]), [licence + 1])
                self.assertEqual(last(school([(licence, need + 1, 80)]) + [promote(0)]), [licence + 1])
                self.assertEqual(last(school([(licence, 0, 80)]) + [promote(0)]), [-62])

    def test_the_licence_is_three(self):
        for jumps in (0, 199, 200, 1000):
            self.assertEqual(last(school([(3, jumps, 80)]) + [promote(0)]), [-17])

    def test_there_is_none_such(self):
        self.assertEqual(last(school([(0, 10, 80)]) + [promote(1)]), [-2])
        self.assertEqual(last(school([(0, 10, 80)]) + [promote(HUGE)]), [-2])
        self.assertEqual(last([begin(1, 1, 1), promote(0)]), [-2])

    def test_one_licence_at_a_time(self):
        calls = school([(0, 200, 80)]) + [promote(0), promote(0), promote(0), promote(0)]
        self.assertEqual(told(calls)[-4:], [[1], [2], [3], [-17]])
        calls = school([(0, 49, 80)]) + [promote(0), promote(0)]
        self.assertEqual(told(calls)[-2:], [[1], [-62]])

    def test_only_the_licence_of_that_jumper_changes(self):
        calls = school([(0, 10, 80), (0, 10, 90)]) + [days(3), board(1, 0)]
        before = seen(calls)
        after = seen(calls + [promote(1)])
        self.assertEqual(before[1], [0, 10, 90, 3, 2, 1])
        self.assertEqual(after[1], [1, 10, 90, 3, 2, 1])
        self.assertEqual(after[:1] + after[2:], before[:1] + before[2:])

    def test_refused_changes_nothing(self):
        calls = school([(0, 9, 80), (3, 200, 80)])
        for call in (promote(0), promote(1), promote(2)):
            self.assertEqual(seen(calls + [call]), seen(calls))

    def test_the_tenth_jump_is_flown(self):
        calls = school([(0, 9, 80)]) + [board(0, 0), promote(0), fly(), promote(0)]
        self.assertEqual(told(calls)[-3:], [[-62], [1, 1], [1]])

    def test_who_was_promoted_boards_anew(self):
        calls = school([(0, 9, 80)], kinds=((0, 0, 9), (1, 10, 9))) + [board(0, 0), fly(), pack(0)]
        self.assertEqual(tail(calls, [board(0, 1), promote(0), board(0, 1)]), [[-61], [1], [1]])
        self.assertEqual(last(calls + [promote(0), board(0, 1), look(0)]), [1, 10, 80, 0, 1, 2])

    def test_who_was_promoted_bears_more_wind(self):
        calls = school([(0, 10, 80)]) + [wind(9)]
        self.assertEqual(tail(calls, [may(0, 0), promote(0), may(0, 0), wind(10), may(0, 0)]),
                         [[-64], [1], [0], [9], [-64]])

    def test_promoted_while_aboard(self):
        calls = school([(0, 10, 80)]) + [board(0, 0), wind(7), fly(), promote(0), fly()]
        self.assertEqual(told(calls)[-3:], [[-64], [1], [1, 1]])


def bare(weights, bears):
    """A school with jumpers of these weights, none of whom wears gear, and with gear that bears so much."""
    calls = [begin(16, 3, 100), kind(0, 0, 1000)] + [jumper(0, 0, weight) for weight in weights]
    return calls + [gear(most_weight) for most_weight in bears]


class Dress(unittest.TestCase):
    def both(self, calls):
        """What dress answers, where most tells the same number."""
        answer = last(calls + [dress()])
        self.assertEqual(last(calls + [most()]), answer[:1])
        self.assertEqual(len(answer), 1 + 2 * answer[0])
        return answer

    def test_the_lighter_first_and_the_weaker_gear_first(self):
        self.assertEqual(self.both(bare([90, 60, 75], [100, 80, 60])), [3, 1, 2, 2, 1, 0, 0])

    def test_nothing_to_give_or_nobody_to_give_to(self):
        self.assertEqual(self.both([begin(1, 1, 1)]), [0])
        self.assertEqual(self.both(bare([80], [])), [0])
        self.assertEqual(self.both(bare([], [80])), [0])
        self.assertEqual(self.both(school([(0, 0, 80)])), [0])

    def test_gear_that_bears_just_as_much(self):
        self.assertEqual(self.both(bare([80], [80])), [1, 0, 0])
        self.assertEqual(self.both(bare([80], [79])), [0])
        self.assertEqual(self.both(bare([200, 1], [1, 200])), [2, 1, 0, 0, 1])

    def test_two_of_one_weight(self):
        self.assertEqual(self.both(bare([80, 80], [80])), [1, 0, 0])
        self.assertEqual(self.both(bare([90, 80, 80], [90, 80, 85])), [3, 1, 1, 2, 2, 0, 0])

    def test_two_pieces_that_bear_alike(self):
        self.assertEqual(self.both(bare([80], [80, 80])), [1, 0, 0])
        self.assertEqual(self.both(bare([70, 80], [90, 80, 80])), [2, 0, 1, 1, 2])

    def test_numbers_are_compared_as_numbers(self):
        self.assertEqual(self.both(bare([100, 9], [100, 9])), [2, 1, 1, 0, 0])
        weights = [80] * 11
        pairs = [number for j in range(11) for number in (j, j)]
        self.assertEqual(self.both(bare(weights, weights)), [11] + pairs)

    def test_gear_that_is_too_weak_goes(self):
        self.assertEqual(self.both(bare([80, 85], [10, 20, 80, 84, 86])), [2, 0, 2, 1, 4])
        self.assertEqual(self.both(bare([80], [79, 78, 77])), [0])

    def test_who_is_too_heavy_gets_none_and_no_other_loses_by_it(self):
        self.assertEqual(self.both(bare([200, 60, 70], [65, 75, 80])), [2, 1, 0, 2, 1])

    def test_more_jumpers_than_gear_and_more_gear_than_jumpers(self):
        self.assertEqual(self.both(bare([60, 70, 80, 90], [100, 100])), [2, 0, 0, 1, 1])
        self.assertEqual(self.both(bare([60], [100, 90, 80, 70])), [1, 0, 3])

    def test_as_many_as_there_can_be(self):
        answer = self.both(bare([80] * 16, [80] * 12))
        self.assertEqual(answer[0], 12)
        self.assertEqual(answer[1::2], list(range(12)))

    def test_who_wears_some_gets_none_and_what_is_worn_is_not_given(self):
        calls = bare([60, 70, 80], [60, 70, 80]) + [give(0, 2)]
        self.assertEqual(self.both(calls), [1, 1, 1])
        self.assertEqual(seen(calls + [dress()])[0][4], 3)
        self.assertEqual(self.both(bare([60, 70], [70]) + [give(0, 0)]), [0])

    def test_gear_that_was_given_back_is_there_again(self):
        calls = bare([60, 70], [60, 70]) + [give(0, 1), back(0)]
        self.assertEqual(self.both(calls), [2, 0, 0, 1, 1])

    def test_gear_that_is_not_packed_is_not_given(self):
        calls = bare([80, 80], [80]) + [give(0, 0), board(0, 0), fly(), back(0)]
        self.assertEqual(self.both(calls), [0])
        self.assertEqual(self.both(calls + [pack(0)]), [1, 0, 0])

    def test_a_pack_on_its_last_day(self):
        self.assertEqual(self.both(bare([80], [80]) + [days(3)]), [1, 0, 0])
        self.assertEqual(self.both(bare([80], [80]) + [days(4)]), [0])
        self.assertEqual(self.both(bare([80, 80], [80, 80]) + [days(4), pack(1)]), [1, 0, 1])

    def test_the_fiftieth_jump(self):
        flown = bare([80], [80]) + [give(0, 0)] + [board(0, 0), fly(), pack(0)] * 49
        self.assertEqual(self.both(flown + [back(0)]), [1, 0, 0])
        flown += [board(0, 0), fly(), pack(0), back(0)]
        self.assertEqual(self.both(flown), [0])
        self.assertEqual(self.both(flown + [check(0)]), [1, 0, 0])

    def test_who_may_not_jump_is_dressed_too(self):
        calls = [begin(16, 30, 100), kind(3, 500, 0), jumper(0, 0, 80), gear(80), days(9), wind(50)]
        self.assertEqual(self.both(calls), [1, 0, 0])

    def test_what_is_worn_afterwards(self):
        calls = bare([90, 60, 200], [60, 80, 100])
        self.assertEqual(tail(calls, [dress(), look(0), look(1), look(2), told_of(0), told_of(1), told_of(2)]),
                         [[2, 1, 0, 0, 2], [0, 0, 90, 0, 3, 0], [0, 0, 60, 0, 1, 0], [0, 0, 200, 0, 0, 0],
                          [60, 1, 0, 0, 2], [80, 1, 0, 0, 0], [100, 1, 0, 0, 1]])
        self.assertEqual(tail(calls, [dress(), back(0), back(1), back(2)])[1:], [[2], [0], [-6]])
        self.assertEqual(tail(calls, [dress(), give(2, 0), give(0, 1), may(0, 0)])[1:], [[-16], [-17], [0]])

    def test_a_second_time_nobody_is_left(self):
        calls = bare([80, 90, 100], [80, 90, 85])
        self.assertEqual(tail(calls, [dress(), dress(), most()]), [[2, 0, 0, 1, 1], [0], [0]])

    def test_nothing_but_who_wears_what_changes(self):
        calls = school([(0, 0, 80), (1, 3, 70)]) + [board(0, 0), join(1, 0), days(2), wind(4)]
        calls += [jumper(0, 0, 60), gear(60)]
        before = seen(calls)
        after = seen(calls + [dress()])
        before[2][4] = 3
        before[16 + 2][4] = 3
        self.assertEqual(after, before)

    def test_who_is_aboard_keeps_what_they_wear(self):
        calls = bare([80, 60], [80, 60]) + [give(1, 0), board(1, 0)]
        self.assertEqual(self.both(calls), [0])
        self.assertEqual(self.both(calls + [off(1), back(1)]), [2, 1, 1, 0, 0])


class Most(unittest.TestCase):
    def test_it_changes_nothing(self):
        calls = bare([90, 60, 75], [100, 80, 60])
        self.assertEqual(seen(calls + [most()]), seen(calls))
        self.assertEqual(tail(calls, [most(), most(), fits(0), dress(), most()]),
                         [[3], [3], [1, 0], [3, 1, 2, 2, 1, 0, 0], [0]])

    def test_it_is_the_same_as_dress_would_give_as_things_change(self):
        calls = bare([80, 81], [80, 81])
        self.assertEqual(tail(calls, [most(), give(0, 1), most(), back(0), days(4), most(), pack(0), most(), state()]),
                         [[2], [0], [0], [1], [4], [0], [0], [1], [4, 0, 1, 2, 2, 0, 0]])


if __name__ == "__main__":
    unittest.main()
