"""Promise 7: order, groups, gap, passes."""

import unittest

from tests.calls import HUGE, begin, board, fly, gap, groups, join, last, off, order, passes, school, seen, tail

KINDS = ((0, 0, 9), (0, 0, 9), (0, 0, 9))
TWELVE = school([(0, 0, 80)] * 12, kinds=KINDS)


def leave(aboard):
    """What order and groups answer with these aboard."""
    return tail(TWELVE + aboard, [order(), groups()])


def crowd(how_many, metres=100, seats=16):
    """A load of so many groups, of one each."""
    return school([(0, 0, 80)] * how_many, seats=seats, metres=metres) + [board(j, 0) for j in range(how_many)]


class HowTheyLeave(unittest.TestCase):
    def test_nobody_aboard(self):
        self.assertEqual(tail([begin(1, 1, 1)], [order(), groups()]), [[0], [0]])
        self.assertEqual(leave([]), [[0], [0]])
        self.assertEqual(leave([board(0, 0), off(0)]), [[0], [0]])
        self.assertEqual(leave([board(0, 0), fly()]), [[0], [0]])

    def test_one_group(self):
        self.assertEqual(leave([board(4, 2)]), [[1, 4], [1, 2, 1]])
        self.assertEqual(leave([board(4, 2), join(9, 4), join(0, 9)]), [[3, 0, 4, 9], [1, 2, 3]])

    def test_the_lesser_kind_first(self):
        self.assertEqual(leave([board(0, 2), board(1, 1), board(2, 0)]), [[3, 2, 1, 0], [3, 0, 1, 1, 1, 2, 1]])
        self.assertEqual(leave([board(0, 1), join(1, 0), join(2, 0), board(3, 0)]), [[4, 3, 0, 1, 2], [2, 0, 1, 1, 3]])

    def test_of_one_kind_the_larger_group(self):
        aboard = [board(0, 0), board(1, 0), join(2, 1), board(3, 0), join(4, 3), join(5, 3)]
        self.assertEqual(leave(aboard), [[6, 3, 4, 5, 1, 2, 0], [3, 0, 3, 0, 2, 0, 1]])

    def test_of_alike_large_ones_the_lesser_first_number(self):
        self.assertEqual(leave([board(5, 0), board(3, 0), board(4, 0)]), [[3, 3, 4, 5], [3, 0, 1, 0, 1, 0, 1]])
        aboard = [board(2, 0), join(9, 2), board(1, 0), join(11, 1), board(10, 0), join(3, 10)]
        self.assertEqual(leave(aboard), [[6, 1, 11, 2, 9, 3, 10], [3, 0, 2, 0, 2, 0, 2]])

    def test_numbers_are_compared_as_numbers(self):
        self.assertEqual(leave([board(10, 0), board(9, 0), board(2, 0)])[0], [3, 2, 9, 10])
        self.assertEqual(leave([board(10, 0), join(2, 10), join(9, 10)])[0], [3, 2, 9, 10])

    def test_in_a_group_the_lesser_numbers_first(self):
        self.assertEqual(leave([board(7, 0), join(3, 7), join(11, 3), join(0, 7)])[0], [4, 0, 3, 7, 11])

    def test_a_groups_first_who_goes_off(self):
        aboard = [board(0, 0), join(3, 0), board(1, 0), join(2, 1)]
        self.assertEqual(leave(aboard), [[4, 0, 3, 1, 2], [2, 0, 2, 0, 2]])
        self.assertEqual(leave(aboard + [off(0)]), [[3, 1, 2, 3], [2, 0, 2, 0, 1]])
        self.assertEqual(leave(aboard + [off(0), join(5, 3)]), [[4, 1, 2, 3, 5], [2, 0, 2, 0, 2]])
        self.assertEqual(leave(aboard + [off(0), board(0, 0)]), [[4, 1, 2, 0, 3], [3, 0, 2, 0, 1, 0, 1]])
        self.assertEqual(leave(aboard + [off(0), off(3)]), [[2, 1, 2], [1, 0, 2]])

    def test_who_joins_a_group_with_a_lesser_number(self):
        aboard = [board(5, 0), join(6, 5), board(2, 0), join(3, 2)]
        self.assertEqual(leave(aboard)[0], [4, 2, 3, 5, 6])
        self.assertEqual(leave(aboard + [off(6), join(1, 5)])[0], [4, 1, 5, 2, 3])

    def test_who_goes_off_and_boards_for_another_kind(self):
        aboard = [board(0, 0), join(1, 0), board(2, 1), off(0), board(0, 2)]
        self.assertEqual(leave(aboard), [[3, 1, 2, 0], [3, 0, 1, 1, 1, 2, 1]])
        self.assertEqual(leave(aboard[:-1] + [join(0, 2)]), [[3, 1, 0, 2], [2, 0, 1, 1, 2]])

    def test_all_aboard(self):
        aboard = [board(j, j % 3) for j in range(12)]
        self.assertEqual(leave(aboard), [[12, 0, 3, 6, 9, 1, 4, 7, 10, 2, 5, 8, 11],
                                         [12] + [0, 1] * 4 + [1, 1] * 4 + [2, 1] * 4])
        together = [board(11, 1)] + [join(j, j + 1) for j in reversed(range(11))]
        self.assertEqual(leave(together), [[12] + list(range(12)), [1, 1, 12]])

    def test_they_change_nothing(self):
        calls = TWELVE + [board(5, 1), join(2, 5), board(0, 1)]
        self.assertEqual(seen(calls + [order(), groups()]), seen(calls))


class Gap(unittest.TestCase):
    def test_whole_seconds_rounded_up(self):
        for metres, speed, seconds in ((100, 30, 4), (100, 99, 2), (101, 50, 3), (99, 50, 2), (2000, 199, 11)):
            with self.subTest(metres=metres, speed=speed):
                self.assertEqual(last(crowd(2, metres) + [gap(speed)]), [seconds, seconds])

    def test_metres_that_come_out_even(self):
        even = ((100, 50, 2), (100, 100, 1), (150, 50, 3), (2000, 200, 10), (7, 7, 1), (9, 1, 9))
        for metres, speed, seconds in even:
            with self.subTest(metres=metres, speed=speed):
                self.assertEqual(last(crowd(2, metres) + [gap(speed)]), [seconds, seconds])

    def test_the_least_and_the_most(self):
        self.assertEqual(tail(crowd(3, 1), [gap(1), gap(200)]), [[1, 2], [1, 2]])
        self.assertEqual(tail(crowd(3, 2000), [gap(1), gap(200)]), [[2000, 4000], [10, 20]])

    def test_out_of_range(self):
        calls = crowd(2)
        self.assertEqual(tail(calls, [gap(0), gap(1), gap(200), gap(201), gap(HUGE)]),
                         [[-22], [100, 100], [1, 1], [-22], [-22]])
        self.assertEqual(tail([begin(1, 1, 1)], [gap(0), gap(201)]), [[-22], [-22]])

    def test_between_the_first_and_the_last(self):
        self.assertEqual(last([begin(1, 1, 100), gap(30)]), [4, 0])
        for how_many, seconds in ((0, 0), (1, 0), (2, 4), (3, 8), (12, 44)):
            with self.subTest(groups=how_many):
                self.assertEqual(last(crowd(how_many) + [gap(30)]), [4, seconds])

    def test_groups_are_counted_not_people(self):
        calls = crowd(2) + [off(1), join(1, 0)]
        self.assertEqual(last(calls + [gap(50)]), [2, 0])
        self.assertEqual(last(TWELVE + [board(0, 0), join(1, 0), join(2, 0), board(3, 1), join(4, 3), gap(50)]), [2, 2])

    def test_after_the_flight_there_are_no_groups(self):
        self.assertEqual(tail(crowd(3), [fly(), gap(50)])[1], [2, 0])

    def test_the_metres_are_those_of_the_last_begin(self):
        self.assertEqual(last([begin(1, 1, 100), begin(1, 1, 500), begin(1, 1, 2001), gap(50)]), [10, 0])


class Passes(unittest.TestCase):
    def test_how_many_may_leave_in_one(self):
        calls = crowd(12)
        for seconds, in_one, how_many in ((0, 1, 12), (1, 1, 12), (2, 2, 6), (3, 2, 6), (4, 3, 4), (5, 3, 4), (6, 4, 3),
                                          (8, 5, 3), (10, 6, 2), (20, 11, 2), (21, 11, 2), (22, 12, 1), (23, 12, 1)):
            with self.subTest(seconds=seconds):
                self.assertEqual(last(calls + [passes(50, seconds)]), [how_many, in_one])

    def test_one_group_more_takes_a_pass_more(self):
        for groups_there, how_many in ((0, 0), (1, 1), (2, 1), (3, 1), (4, 2), (5, 2), (6, 2), (7, 3)):
            with self.subTest(groups=groups_there):
                self.assertEqual(last(crowd(groups_there) + [passes(50, 4)]), [how_many, 3])

    def test_a_pass_of_no_seconds(self):
        for how_many in (0, 1, 2, 5):
            for speed in (1, 50, 200):
                self.assertEqual(last(crowd(how_many) + [passes(speed, 0)]), [how_many, 1])

    def test_no_groups(self):
        self.assertEqual(tail([begin(1, 1, 100)], [passes(50, 0), passes(50, 2), passes(200, 600)]),
                         [[0, 1], [0, 2], [0, 601]])

    def test_metres_that_do_not_come_out_even(self):
        calls = crowd(5, 101)
        self.assertEqual(tail(calls, [passes(50, 2), passes(50, 3), passes(50, 5), passes(50, 6)]),
                         [[5, 1], [3, 2], [3, 2], [2, 3]])

    def test_the_longest_and_the_shortest_way(self):
        self.assertEqual(last(crowd(3, 2000) + [passes(1, 600)]), [3, 1])
        self.assertEqual(last(crowd(3, 600) + [passes(1, 600)]), [2, 2])
        self.assertEqual(last(crowd(3, 601) + [passes(1, 600)]), [3, 1])
        self.assertEqual(last(crowd(3, 1) + [passes(200, 600)]), [1, 601])

    def test_out_of_range(self):
        asked = [passes(0, 0), passes(0, 600), passes(201, 0), passes(1, 601), passes(200, 601), passes(0, 601),
                 passes(201, 601), passes(HUGE, 1), passes(1, HUGE), passes(HUGE, HUGE)]
        self.assertEqual(tail(crowd(2), asked), [[-22]] * len(asked))
        self.assertEqual(tail([begin(1, 1, 1)], asked), [[-22]] * len(asked))
        self.assertEqual(tail(crowd(2), [passes(1, 0), passes(1, 600), passes(200, 0), passes(200, 600)]),
                         [[2, 1], [1, 7], [2, 1], [1, 601]])

    def test_groups_are_counted_not_people(self):
        self.assertEqual(last(TWELVE + [board(0, 0), join(1, 0), join(2, 0), board(3, 1), passes(50, 0)]), [2, 1])

    def test_they_change_nothing(self):
        calls = crowd(3)
        self.assertEqual(seen(calls + [gap(50), gap(0), passes(50, 4), passes(50, 601)]), seen(calls))


if __name__ == "__main__":
    unittest.main()
