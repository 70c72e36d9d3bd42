"""Promise 6: may, who, fits, due."""

import unittest

from tests.calls import (HUGE, back, begin, board, check, days, due, fits, fly, gear, give, join, jumper, kind, last,
                         may, pack, promote, school, seen, tail, who, wind)

FIFTY = [board(0, 0), fly(), pack(0)] * 50


class May(unittest.TestCase):
    def test_there_is_none_such(self):
        calls = school([(0, 0, 80)], kinds=((1, 0, 9), (0, 0, 9)))
        for call in (may(1, 0), may(0, 2), may(1, 2), may(HUGE, 0), may(0, HUGE), may(HUGE, HUGE)):
            self.assertEqual(last(calls + [call]), [-2])
        self.assertEqual(last([begin(1, 1, 1), may(0, 0)]), [-2])
        self.assertEqual(last([begin(1, 1, 1), jumper(0, 0, 80), may(0, 0)]), [-2])
        self.assertEqual(last([begin(1, 1, 1), kind(0, 0, 0), may(0, 0)]), [-2])

    def test_each_kind_by_itself(self):
        kinds = ((0, 0, 9), (1, 5, 9), (2, 5, 9), (1, 6, 9), (1, 5, 1))
        calls = school([(0, 9, 80), (1, 5, 80)], kinds=kinds) + [days(2)]
        asked = [may(1, k) for k in range(5)]
        self.assertEqual(tail(calls, asked), [[0], [0], [-61], [-62], [-63]])
        self.assertEqual(tail(calls, [may(0, 1), wind(9), may(1, 0), wind(10), may(1, 0)]),
                         [[-61], [0], [0], [9], [-64]])

    def test_of_the_gear(self):
        calls = school([(0, 0, 80)], pack_days=3)
        self.assertEqual(last(calls + [may(0, 0)]), [0])
        self.assertEqual(last(calls + [back(0), may(0, 0)]), [-65])
        self.assertEqual(last(calls + [board(0, 0), fly(), may(0, 0)]), [-66])
        self.assertEqual(last(calls + [days(3), may(0, 0)]), [0])
        self.assertEqual(last(calls + [days(4), may(0, 0)]), [-67])
        self.assertEqual(last(calls + FIFTY[:-3] + [may(0, 0)]), [0])
        self.assertEqual(last(calls + FIFTY[:-1] + [may(0, 0)]), [-66])
        self.assertEqual(last(calls + FIFTY + [may(0, 0)]), [-68])
        self.assertEqual(last(calls + FIFTY + [days(4), may(0, 0)]), [-67])
        self.assertEqual(last(calls + FIFTY + [check(0), may(0, 0)]), [0])

    def test_the_first_that_is_so(self):
        there = [begin(1, 1, 1), jumper(0, 0, 80), days(2), wind(50), kind(1, 1, 1), kind(0, 1, 1), kind(0, 0, 1),
                 kind(0, 0, 2)]
        self.assertEqual(tail(there, [may(0, 0), may(0, 1), may(0, 2), may(0, 3), wind(6), may(0, 3)]),
                         [[-61], [-62], [-63], [-64], [50], [-65]])

    def test_aboard_and_full_planes_do_not_matter(self):
        calls = school([(0, 0, 80), (0, 0, 80)], seats=1) + [board(0, 0)]
        self.assertEqual(tail(calls, [may(0, 0), may(1, 0), board(1, 0)]), [[0], [0], [-28]])

    def test_it_changes_nothing(self):
        calls = school([(0, 0, 80), (1, 0, 80)], kinds=((0, 0, 9), (1, 0, 9))) + [board(1, 1)]
        for call in (may(0, 0), may(0, 1), may(1, 1), may(2, 0)):
            self.assertEqual(seen(calls + [call]), seen(calls))


class Who(unittest.TestCase):
    def test_these_rising(self):
        kinds = ((0, 0, 9), (1, 0, 9), (2, 9, 9), (3, 1, 9))
        calls = school([(2, 9, 80), (0, 9, 80), (1, 9, 80), (3, 0, 80)], kinds=kinds)
        self.assertEqual(tail(calls, [who(0), who(1), who(2), who(3)]), [[4, 0, 1, 2, 3], [3, 0, 2, 3], [1, 0], [0]])

    def test_nobody_there(self):
        self.assertEqual(last([begin(1, 1, 1), kind(0, 0, 0), who(0)]), [0])

    def test_there_is_none_such(self):
        calls = school([(0, 0, 80), (0, 0, 80)])
        self.assertEqual(tail(calls, [who(1), who(HUGE)]), [[-2], [-2]])
        self.assertEqual(last([begin(1, 1, 1), who(0)]), [-2])

    def test_numbers_rise_as_numbers(self):
        calls = school([(0, 0, 80)] * 12)
        self.assertEqual(last(calls + [who(0)]), [12] + list(range(12)))

    def test_wind_gear_and_days(self):
        calls = school([(0, 0, 80), (1, 0, 80), (2, 0, 80)], pack_days=3)
        self.assertEqual(tail(calls, [wind(7), who(0), wind(10), who(0), wind(13), who(0)])[1::2],
                         [[2, 1, 2], [1, 2], [0]])
        self.assertEqual(last(calls + [back(1), who(0)]), [2, 0, 2])
        self.assertEqual(last(calls + [board(0, 0), fly(), who(0)]), [2, 1, 2])

    def test_a_pack_on_its_last_day(self):
        calls = school([(0, 0, 80), (0, 0, 80)], pack_days=3) + [days(1), pack(1), days(2)]
        self.assertEqual(tail(calls, [who(0), days(1), who(0), days(1), who(0)]), [[2, 0, 1], [4], [1, 1], [5], [0]])

    def test_the_fiftieth_jump(self):
        calls = school([(0, 0, 80), (0, 0, 80)])
        self.assertEqual(last(calls + FIFTY[:-3] + [who(0)]), [2, 0, 1])
        self.assertEqual(last(calls + FIFTY + [who(0)]), [1, 1])

    def test_who_is_aboard_may_too(self):
        calls = school([(0, 0, 80), (0, 0, 80)], seats=1) + [board(1, 0)]
        self.assertEqual(last(calls + [who(0)]), [2, 0, 1])

    def test_who_was_promoted(self):
        calls = school([(0, 9, 80), (0, 10, 80)], kinds=((1, 0, 9),))
        self.assertEqual(tail(calls, [who(0), promote(0), promote(1), who(0)]), [[0], [-62], [1], [1, 1]])

    def test_it_changes_nothing(self):
        calls = school([(0, 0, 80), (1, 0, 80)]) + [board(1, 0), join(0, 1)]
        self.assertEqual(seen(calls + [who(0), who(1)]), seen(calls))


class Fits(unittest.TestCase):
    def setUp(self):
        self.there = [begin(9, 3, 100), kind(0, 0, 1000), jumper(0, 0, 80), jumper(0, 0, 81), gear(90), gear(80),
                      gear(79), gear(80), gear(200)]

    def test_what_bears_just_as_much_and_more_rising(self):
        self.assertEqual(tail(self.there, [fits(0), fits(1)]), [[4, 0, 1, 3, 4], [2, 0, 4]])

    def test_there_is_none_such(self):
        self.assertEqual(tail(self.there, [fits(2), fits(HUGE)]), [[-2], [-2]])
        self.assertEqual(last([begin(1, 1, 1), gear(80), fits(0)]), [-2])

    def test_none_there_or_none_strong_enough(self):
        self.assertEqual(last([begin(1, 1, 1), jumper(0, 0, 80), fits(0)]), [0])
        self.assertEqual(last([begin(1, 1, 1), jumper(0, 0, 80), gear(79), fits(0)]), [0])

    def test_what_somebody_wears_is_not_told(self):
        self.assertEqual(last(self.there + [give(1, 4), fits(0)]), [3, 0, 1, 3])
        self.assertEqual(last(self.there + [give(1, 4), back(1), fits(0)]), [4, 0, 1, 3, 4])

    def test_who_wears_some_is_told_what_else_would_fit(self):
        self.assertEqual(last(self.there + [give(0, 1), fits(0)]), [3, 0, 3, 4])

    def test_what_is_not_packed_is_not_told(self):
        calls = self.there + [give(0, 1), board(0, 0), fly(), back(0)]
        self.assertEqual(tail(calls, [fits(0), pack(1), fits(0)]), [[3, 0, 3, 4], [0], [4, 0, 1, 3, 4]])

    def test_a_pack_on_its_last_day(self):
        calls = self.there + [days(1), pack(0), days(2)]
        self.assertEqual(tail(calls, [fits(0), days(1), fits(0), days(1), fits(0)]),
                         [[4, 0, 1, 3, 4], [4], [1, 0], [5], [0]])

    def test_the_fiftieth_jump(self):
        calls = self.there + [give(0, 0)]
        self.assertEqual(last(calls + FIFTY[:-3] + [back(0), fits(0)]), [4, 0, 1, 3, 4])
        self.assertEqual(last(calls + FIFTY + [back(0), fits(0)]), [3, 1, 3, 4])
        self.assertEqual(last(calls + FIFTY + [back(0), check(0), fits(0)]), [4, 0, 1, 3, 4])

    def test_it_changes_nothing(self):
        self.assertEqual(seen(self.there + [fits(0), fits(1), fits(2)]), seen(self.there))


class Due(unittest.TestCase):
    def setUp(self):
        # Packs are good for 3 days: gear 0 and 2 were packed on day 0, gear 1 on day 1, gear 3 on day 2; it is day 2.
        self.there = [begin(9, 3, 100), kind(0, 0, 1000), jumper(0, 0, 80), gear(80), gear(80), gear(80), days(1),
                      pack(1), days(1), gear(80)]

    def test_the_last_day_and_the_day_after(self):
        self.assertEqual(tail(self.there, [due(0), due(1), due(2), due(3), due(4), due(400)]),
                         [[0], [0], [2, 0, 2], [3, 0, 1, 2], [4, 0, 1, 2, 3], [4, 0, 1, 2, 3]])

    def test_in_no_days_is_now(self):
        calls = self.there + [days(1)]
        self.assertEqual(tail(calls, [due(0), days(1), due(0), due(1)]), [[0], [4], [2, 0, 2], [3, 0, 1, 2]])

    def test_out_of_range(self):
        self.assertEqual(tail(self.there, [due(401), due(HUGE)]), [[-22], [-22]])
        self.assertEqual(tail([begin(1, 1, 1)], [due(400), due(401), due(0)]), [[0], [-22], [0]])

    def test_a_pack_that_is_good_for_four_hundred_days(self):
        calls = [begin(1, 400, 1), gear(80)]
        self.assertEqual(tail(calls, [due(400), days(1), due(399), due(400), days(400), due(0)]),
                         [[0], [1], [0], [1, 0], [401], [1, 0]])

    def test_what_is_not_packed_is_not_told(self):
        calls = self.there + [give(0, 0), board(0, 0), fly()]
        self.assertEqual(tail(calls, [due(2), due(400), pack(0), due(2), due(3), due(4)]),
                         [[1, 2], [3, 1, 2, 3], [0], [1, 2], [2, 1, 2], [4, 0, 1, 2, 3]])

    def test_what_is_worn_and_what_was_looked_at_are_told(self):
        calls = self.there + [give(0, 2), check(0)]
        self.assertEqual(last(calls + [due(2)]), [2, 0, 2])
        self.assertEqual(last(calls + [board(0, 0), due(2)]), [2, 0, 2])

    def test_fifty_jumps_do_not_matter(self):
        calls = school([(0, 0, 80)], pack_days=3) + FIFTY
        self.assertEqual(tail(calls, [due(3), due(4)]), [[0], [1, 0]])

    def test_numbers_rise_as_numbers(self):
        calls = [begin(1, 1, 1)] + [gear(80)] * 12
        self.assertEqual(last(calls + [due(2)]), [12] + list(range(12)))

    def test_it_changes_nothing(self):
        self.assertEqual(seen(self.there + [due(0), due(400), due(401)]), seen(self.there))


if __name__ == "__main__":
    unittest.main()
