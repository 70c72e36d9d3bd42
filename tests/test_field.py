"""Promise 2: give, back, pack, check, wind, days."""

import unittest

from tests.calls import (HUGE, back, begin, board, check, days, fly, gear, give, join, jumper, kind, last, off, pack,
                         school, told, wind)


class Give(unittest.TestCase):
    def setUp(self):
        self.there = [begin(4, 30, 100), kind(0, 0, 1000), jumper(0, 0, 80), jumper(0, 0, 81), gear(80), gear(90)]

    def test_ordinary(self):
        self.assertEqual(last(self.there + [give(1, 1)]), [0])
        self.assertEqual(last(self.there + [give(1, 1), board(1, 0)]), [1])
        self.assertEqual(last(self.there + [give(1, 1), board(0, 0)]), [-65])

    def test_gear_that_bears_just_as_much(self):
        self.assertEqual(last(self.there + [give(0, 0)]), [0])
        self.assertEqual(last(self.there + [give(1, 0)]), [-71])

    def test_the_least_and_the_most_weight(self):
        calls = [begin(4, 30, 100), jumper(0, 0, 1), jumper(0, 0, 200), gear(1), gear(200)]
        self.assertEqual(told(calls + [give(1, 0), give(0, 0), give(1, 1)])[-3:], [[-71], [0], [0]])

    def test_who_wears_some_gets_no_other(self):
        self.assertEqual(last(self.there + [give(0, 0), give(0, 1)]), [-17])
        self.assertEqual(last(self.there + [give(0, 0), give(0, 0)]), [-17])

    def test_what_somebody_wears_is_not_given(self):
        self.assertEqual(last(self.there + [give(0, 1), give(1, 1)]), [-16])

    def test_the_order_of_refusals(self):
        self.assertEqual(last(self.there + [give(0, 0), give(1, 1), give(0, 1)]), [-17])
        self.assertEqual(last(self.there + [give(1, 1), give(1, 0)]), [-17])
        self.assertEqual(last(self.there + [give(0, 0), give(1, 0)]), [-16])

    def test_refused_gives_nothing(self):
        self.assertEqual(last(self.there + [give(1, 0), back(1)]), [-6])
        self.assertEqual(last(self.there + [give(0, 1), give(1, 1), back(1)]), [-6])
        self.assertEqual(last(self.there + [give(0, 0), give(0, 1), back(0)]), [0])
        self.assertEqual(last(self.there + [give(0, 0), give(0, 1), give(1, 1)]), [0])

    def test_gear_that_is_not_good_may_be_given(self):
        worn = school([(0, 0, 80)]) + [board(0, 0), fly(), back(0)]
        self.assertEqual(last(worn + [give(0, 0)]), [0])
        self.assertEqual(last(worn + [give(0, 0), board(0, 0)]), [-66])


class Back(unittest.TestCase):
    def setUp(self):
        self.there = [begin(4, 30, 100), kind(0, 0, 1000), jumper(0, 0, 80), jumper(0, 0, 80), gear(80), gear(90),
                      give(0, 1)]

    def test_answers_which_it_was(self):
        self.assertEqual(last(self.there + [back(0)]), [1])
        self.assertEqual(last(self.there + [give(1, 0), back(1)]), [0])

    def test_nobody_wears_it_then(self):
        self.assertEqual(last(self.there + [back(0), back(0)]), [-6])
        self.assertEqual(last(self.there + [back(0), give(1, 1)]), [0])
        self.assertEqual(last(self.there + [back(0), board(0, 0)]), [-65])

    def test_who_wears_none(self):
        self.assertEqual(last(self.there + [back(1)]), [-6])

    def test_who_is_aboard(self):
        self.assertEqual(told(self.there + [board(0, 0), back(0), fly()])[-2:], [[-16], [1, 1]])
        self.assertEqual(last(self.there + [give(1, 0), board(0, 0), join(1, 0), back(1)]), [-16])

    def test_who_is_aboard_no_more(self):
        self.assertEqual(last(self.there + [board(0, 0), off(0), back(0)]), [1])
        self.assertEqual(last(self.there + [board(0, 0), fly(), back(0)]), [1])


class Pack(unittest.TestCase):
    def test_packed_today(self):
        calls = [begin(4, 30, 100), gear(80)]
        self.assertEqual(told(calls + [pack(0), days(1), pack(0), pack(0)])[-4:], [[-17], [1], [0], [-17]])

    def test_flown_today_it_may_be_packed_again(self):
        calls = school([(0, 0, 80)]) + [board(0, 0), fly(), pack(0), pack(0), board(0, 0)]
        self.assertEqual(told(calls)[-4:], [[1, 1], [0], [-17], [1]])

    def test_each_piece_by_itself(self):
        calls = [begin(4, 30, 100), gear(80), days(1), gear(80)]
        self.assertEqual(told(calls + [pack(1), pack(0)])[-2:], [[-17], [0]])

    def test_the_pack_counts_from_then(self):
        calls = school([(0, 0, 80)], pack_days=3) + [days(2), pack(0)]
        self.assertEqual(last(calls + [days(3), board(0, 0)]), [1])
        self.assertEqual(last(calls + [days(4), board(0, 0)]), [-67])

    def test_what_is_too_old_is_packed_anew(self):
        calls = school([(0, 0, 80)], pack_days=3) + [days(4), board(0, 0), pack(0), board(0, 0)]
        self.assertEqual(told(calls)[-3:], [[-67], [0], [1]])

    def test_worn_aboard_it_may_be_packed(self):
        calls = school([(0, 0, 80)], pack_days=3) + [board(0, 0), days(4), fly(), pack(0), fly()]
        self.assertEqual(told(calls)[-3:], [[-67], [0], [1, 1]])

    def test_a_pack_is_no_look(self):
        calls = school([(0, 0, 80)]) + [board(0, 0), fly(), pack(0), check(0)]
        self.assertEqual(last(calls), [1])


class Check(unittest.TestCase):
    def test_answers_how_many_it_had_and_there_are_none_since(self):
        calls = school([(0, 0, 80), (0, 0, 80)])
        calls += [board(0, 0), fly(), pack(0), board(0, 0), board(1, 0), fly()]
        self.assertEqual(told(calls + [check(0), check(0), check(1), check(1)])[-4:], [[2], [0], [1], [0]])

    def test_a_look_is_no_pack(self):
        calls = school([(0, 0, 80)], pack_days=3)
        self.assertEqual(last(calls + [board(0, 0), fly(), check(0), board(0, 0)]), [-66])
        self.assertEqual(last(calls + [days(4), check(0), board(0, 0)]), [-67])


class Wind(unittest.TestCase):
    def test_answers_what_it_was(self):
        calls = [begin(4, 30, 100), wind(5), wind(50), wind(0), wind(0)]
        self.assertEqual(told(calls)[1:], [[0], [5], [50], [0]])

    def test_out_of_range(self):
        calls = [begin(4, 30, 100), wind(7), wind(51), wind(HUGE), wind(1)]
        self.assertEqual(told(calls)[1:], [[0], [-22], [-22], [7]])

    def test_it_stays_over_days(self):
        self.assertEqual(last([begin(4, 30, 100), wind(7), days(3), wind(0)]), [7])


class Days(unittest.TestCase):
    def test_answers_the_day(self):
        self.assertEqual(told([begin(4, 30, 100), days(1), days(400), days(2)])[1:], [[1], [401], [403]])

    def test_out_of_range(self):
        calls = [begin(4, 30, 100), days(3), days(0), days(401), days(HUGE), days(1)]
        self.assertEqual(told(calls)[1:], [[3], [-22], [-22], [-22], [4]])


if __name__ == "__main__":
    unittest.main()
