"""Promise 1: begin, kind, jumper, gear."""

import unittest

from tests.calls import (HUGE, begin, board, days, fly, gear, give, jumper, kind, last, off, pack, school, told,
                         wind)


class Begin(unittest.TestCase):
    def test_ordinary(self):
        self.assertEqual(told([begin(4, 30, 100)]), [[0]])

    def test_the_edges(self):
        for call in (begin(1, 1, 1), begin(16, 400, 2000), begin(1, 400, 1), begin(16, 1, 2000)):
            with self.subTest(call=call):
                self.assertEqual(told([call]), [[0]])

    def test_out_of_range(self):
        for call in (begin(0, 1, 1), begin(17, 1, 1), begin(1, 0, 1), begin(1, 401, 1), begin(1, 1, 0),
                     begin(1, 1, 2001), begin(HUGE, 1, 1), begin(1, HUGE, 1), begin(1, 1, HUGE), begin(0, 0, 0)):
            with self.subTest(call=call):
                self.assertEqual(told([call]), [[-22]])

    def test_a_new_begin_leaves_nothing_of_the_old(self):
        old = school([(0, 0, 80)]) + [wind(20), days(7)]
        new = old + [begin(2, 2, 2)]
        self.assertEqual(last(new), [0])
        self.assertEqual(last(new + [pack(0)]), [-2])
        self.assertEqual(last(new + [off(0)]), [-2])
        self.assertEqual(last(new + [wind(0)]), [0])
        self.assertEqual(last(new + [days(1)]), [1])
        self.assertEqual(last(new + [kind(0, 0, 0)]), [0])
        self.assertEqual(last(new + [jumper(0, 0, 1)]), [0])
        self.assertEqual(last(new + [gear(1)]), [0])

    def test_nobody_is_aboard_after_a_new_begin(self):
        anew = school([(0, 0, 80)]) + [board(0, 0)] + school([(0, 0, 80)])
        self.assertEqual(last(anew + [fly()]), [-6])
        self.assertEqual(last(anew + [off(0)]), [-6])
        self.assertEqual(last(anew + [board(0, 0)]), [1])

    def test_a_new_begin_sets_seats_and_pack_days(self):
        two = [(0, 0, 80), (0, 0, 80)]
        anew = school(two, seats=1, pack_days=1) + school(two, seats=2, pack_days=5)
        self.assertEqual(told(anew + [days(5), board(0, 0), board(1, 0)])[-2:], [[1], [2]])

    def test_a_refused_begin_leaves_the_old(self):
        calls = school([(0, 0, 80), (0, 0, 80)], seats=1, pack_days=3) + [wind(5), days(3), board(0, 0)]
        for refused in (begin(17, 9, 9), begin(2, 0, 9), begin(2, 9, 2001)):
            with self.subTest(refused=refused):
                after = calls + [refused]
                self.assertEqual(last(after), [-22])
                self.assertEqual(last(after + [wind(0)]), [5])
                self.assertEqual(last(after + [board(1, 0)]), [-28])
                self.assertEqual(last(after + [fly()]), [1, 1])
                self.assertEqual(last(after + [days(1)]), [4])
                self.assertEqual(last(after + [days(1), fly()]), [-67])
                self.assertEqual(last(after + [kind(0, 0, 0)]), [1])
                self.assertEqual(last(after + [jumper(0, 0, 1)]), [2])
                self.assertEqual(last(after + [gear(1)]), [2])


class Kind(unittest.TestCase):
    def test_numbers_rise_from_nought_to_the_sixth(self):
        calls = [begin(1, 1, 1)] + [kind(0, 0, 0)] * 7
        self.assertEqual(told(calls)[1:], [[0], [1], [2], [3], [4], [5], [-28]])

    def test_the_edges(self):
        for call in (kind(0, 0, 0), kind(3, 1000, 1000), kind(3, 0, 0), kind(0, 1000, 0), kind(0, 0, 1000)):
            with self.subTest(call=call):
                self.assertEqual(last([begin(1, 1, 1), call]), [0])

    def test_out_of_range(self):
        for call in (kind(4, 0, 0), kind(0, 1001, 0), kind(0, 0, 1001), kind(HUGE, 0, 0), kind(0, HUGE, 0),
                     kind(0, 0, HUGE)):
            with self.subTest(call=call):
                self.assertEqual(told([begin(1, 1, 1), call, kind(0, 0, 0)])[1:], [[-22], [0]])

    def test_too_many_is_told_ahead_of_out_of_range(self):
        self.assertEqual(last([begin(1, 1, 1)] + [kind(0, 0, 0)] * 6 + [kind(4, 1001, 1001)]), [-28])

    def test_what_each_needs_is_its_own(self):
        calls = school([(1, 5, 80)], kinds=((2, 0, 1000), (0, 6, 1000), (0, 0, 0), (1, 5, 1))) + [days(1)]
        self.assertEqual([last(calls + [board(0, k)]) for k in range(4)], [[-61], [-62], [-63], [1]])


class Jumper(unittest.TestCase):
    def test_numbers_rise_from_nought_to_the_sixteenth(self):
        calls = [begin(1, 1, 1)] + [jumper(0, 0, 80)] * 17
        self.assertEqual(told(calls)[1:], [[number] for number in range(16)] + [[-28]])

    def test_the_edges(self):
        for call in (jumper(0, 0, 1), jumper(3, 1000, 200), jumper(3, 0, 1), jumper(0, 1000, 1), jumper(0, 0, 200)):
            with self.subTest(call=call):
                self.assertEqual(last([begin(1, 1, 1), call]), [0])

    def test_out_of_range(self):
        for call in (jumper(4, 0, 1), jumper(0, 1001, 1), jumper(0, 0, 0), jumper(0, 0, 201), jumper(HUGE, 0, 1),
                     jumper(0, HUGE, 1), jumper(0, 0, HUGE)):
            with self.subTest(call=call):
                self.assertEqual(told([begin(1, 1, 1), call, jumper(0, 0, 1)])[1:], [[-22], [0]])

    def test_too_many_is_told_ahead_of_out_of_range(self):
        self.assertEqual(last([begin(1, 1, 1)] + [jumper(0, 0, 1)] * 16 + [jumper(4, 1001, 0)]), [-28])

    def test_comes_without_gear(self):
        self.assertEqual(last([begin(1, 1, 1), kind(0, 0, 0), gear(9), jumper(0, 0, 9), board(0, 0)]), [-65])

    def test_the_last_jump_is_at_first_the_day_of_coming(self):
        calls = [begin(1, 400, 1), kind(0, 0, 2), days(5), jumper(0, 0, 9), gear(9), give(0, 0)]
        self.assertEqual(last(calls + [days(2), board(0, 0)]), [1])
        self.assertEqual(last(calls + [days(3), board(0, 0)]), [-63])


class Gear(unittest.TestCase):
    def test_numbers_rise_from_nought_to_the_twelfth(self):
        calls = [begin(1, 1, 1)] + [gear(80)] * 13
        self.assertEqual(told(calls)[1:], [[number] for number in range(12)] + [[-28]])

    def test_the_edges(self):
        self.assertEqual(told([begin(1, 1, 1), gear(1), gear(200)])[1:], [[0], [1]])

    def test_out_of_range(self):
        for bears in (0, 201, HUGE):
            with self.subTest(bears=bears):
                self.assertEqual(told([begin(1, 1, 1), gear(bears), gear(1)])[1:], [[-22], [0]])

    def test_too_many_is_told_ahead_of_out_of_range(self):
        self.assertEqual(last([begin(1, 1, 1)] + [gear(1)] * 12 + [gear(0)]), [-28])

    def test_comes_packed_today_and_without_jumps(self):
        calls = [begin(1, 2, 1), kind(0, 0, 1000), jumper(0, 0, 9), days(5), gear(9), give(0, 0)]
        self.assertEqual(last(calls + [pack(0)]), [-17])
        self.assertEqual(last(calls + [[7, 0]]), [0])
        self.assertEqual(last(calls + [days(2), board(0, 0)]), [1])
        self.assertEqual(last(calls + [days(3), board(0, 0)]), [-67])


if __name__ == "__main__":
    unittest.main()
