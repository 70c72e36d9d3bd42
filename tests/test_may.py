"""Why somebody may not jump, the first that's so, seen through board."""

import unittest

from tests.calls import begin, board, check, days, fly, give, jumper, kind, last, pack, school, told, wind


def flown(times):
    """Jumper 0 flies that often on one day, with gear 0 packed before each but the first flight."""
    return ([board(0, 0), fly(), pack(0)] * times)[:-1]


class EachReason(unittest.TestCase):
    def test_licence(self):
        for need in range(4):
            for has in range(4):
                with self.subTest(need=need, has=has):
                    answer = last(school([(has, 0, 80)], kinds=((need, 0, 1000),)) + [board(0, 0)])
                    self.assertEqual(answer, [1] if has >= need else [-61])

    def test_jumps(self):
        for has, answer in ((999, -62), (1000, 1)):
            calls = school([(0, has, 80)], kinds=((0, 1000, 1000),)) + [board(0, 0)]
            self.assertEqual(last(calls), [answer])

    def test_the_last_jump(self):
        for limit in (0, 1, 7):
            calls = school([(0, 0, 80)], kinds=((0, 0, limit),))
            if limit > 0:
                self.assertEqual(last(calls + [days(limit), board(0, 0)]), [1])
            self.assertEqual(last(calls + [days(limit + 1), board(0, 0)]), [-63])
        self.assertEqual(last(school([(0, 0, 80)], kinds=((0, 0, 0),)) + [board(0, 0)]), [1])

    def test_the_last_jump_a_thousand_days_ago(self):
        calls = school([(0, 0, 80)]) + [days(400), days(400), days(200)]
        self.assertEqual(last(calls + [pack(0), board(0, 0)]), [1])
        self.assertEqual(last(calls + [days(1), pack(0), board(0, 0)]), [-63])

    def test_wind(self):
        for licence, bears in ((0, 6), (1, 9), (2, 12), (3, 15)):
            calls = school([(licence, 0, 80)])
            with self.subTest(licence=licence):
                self.assertEqual(last(calls + [wind(bears), board(0, 0)]), [1])
                self.assertEqual(last(calls + [wind(bears + 1), board(0, 0)]), [-64])
                self.assertEqual(last(calls + [wind(50), board(0, 0)]), [-64])
                self.assertEqual(last(calls + [wind(50), wind(bears), board(0, 0)]), [1])

    def test_the_wind_is_borne_by_the_licence_they_have_not_the_one_needed(self):
        calls = school([(3, 0, 80)], kinds=((0, 0, 1000),)) + [wind(15), board(0, 0)]
        self.assertEqual(last(calls), [1])

    def test_no_gear(self):
        self.assertEqual(last([begin(1, 1, 1), kind(0, 0, 0), jumper(0, 0, 9), board(0, 0)]), [-65])

    def test_not_packed(self):
        self.assertEqual(last(school([(0, 0, 80)]) + [board(0, 0), fly(), board(0, 0)]), [-66])

    def test_a_pack_on_its_last_day_and_the_day_after(self):
        for good in (1, 30, 400):
            calls = school([(0, 0, 80)], pack_days=good) + [days(good)]
            with self.subTest(good=good):
                self.assertEqual(last(calls + [board(0, 0)]), [1])
                self.assertEqual(last(calls + [days(1), board(0, 0)]), [-67])

    def test_the_fiftieth_jump(self):
        calls = school([(0, 0, 80)]) + flown(49) + [pack(0)]
        self.assertEqual(last(calls + [board(0, 0)]), [1])
        self.assertEqual(last(calls + [board(0, 0), fly()]), [1, 1])
        fifty = calls + [board(0, 0), fly(), pack(0)]
        self.assertEqual(last(fifty + [board(0, 0)]), [-68])
        self.assertEqual(told(fifty + [check(0), board(0, 0)])[-2:], [[50], [1]])
        self.assertEqual(last(fifty + [check(0), check(0)]), [0])

    def test_jumps_are_the_gears_not_its_wearers(self):
        calls = school([(0, 0, 80), (0, 0, 80)]) + flown(50) + [pack(0)]
        swapped = calls + [[5, 0], [5, 1], give(0, 1), give(1, 0)]
        self.assertEqual(told(swapped + [board(0, 0), board(1, 0)])[-2:], [[1], [-68]])

    def test_gear_that_somebody_else_wears_does_not_count(self):
        calls = school([(0, 0, 80), (0, 0, 80)]) + [board(1, 0), fly()]
        self.assertEqual(told(calls + [board(0, 0), board(1, 0)])[-2:], [[1], [-66]])


class TheFirstThatIsSo(unittest.TestCase):
    def test_from_all_that_can_be_due_at_once_one_less_each_time(self):
        there = [begin(1, 1, 1), jumper(0, 0, 80)]
        later = [days(1), wind(50), board(0, 0)]
        self.assertEqual(last(there + [kind(1, 1, 0)] + later), [-61])
        self.assertEqual(last(there + [kind(0, 1, 0)] + later), [-62])
        self.assertEqual(last(there + [kind(0, 0, 0)] + later), [-63])
        self.assertEqual(last(there + [kind(0, 0, 1)] + later), [-64])
        self.assertEqual(last(there + [kind(0, 0, 1)] + later[:1] + later[2:]), [-65])

    def test_licence_ahead_of_the_last_jump_and_jumps_ahead_of_wind(self):
        there = [begin(1, 1, 1), jumper(0, 0, 80), days(1)]
        self.assertEqual(last(there + [kind(1, 0, 0), board(0, 0)]), [-61])
        self.assertEqual(last(there + [kind(0, 1, 9), wind(7), board(0, 0)]), [-62])

    def test_wind_ahead_of_gear_that_is_not_good(self):
        calls = school([(0, 0, 80)]) + [board(0, 0), fly(), wind(7), board(0, 0)]
        self.assertEqual(last(calls), [-64])

    def test_not_packed_ahead_of_too_old(self):
        calls = school([(0, 0, 80)], pack_days=1) + [board(0, 0), fly(), days(2), board(0, 0)]
        self.assertEqual(last(calls), [-66])

    def test_not_packed_ahead_of_fifty_jumps(self):
        self.assertEqual(last(school([(0, 0, 80)]) + flown(50) + [board(0, 0)]), [-66])

    def test_too_old_ahead_of_fifty_jumps(self):
        calls = school([(0, 0, 80)], pack_days=1) + flown(50) + [pack(0), days(2), board(0, 0)]
        self.assertEqual(last(calls), [-67])


if __name__ == "__main__":
    unittest.main()
