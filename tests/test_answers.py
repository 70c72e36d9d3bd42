"""The interface: how calls are read and answered, -11 and -2, what is refused changes nothing."""

import contextlib
import io
import unittest

from jumpschool.school import answers
from tests.calls import (HUGE, back, begin, board, check, days, dress, due, fits, flat, fly, gap, gear, give, groups,
                         join, jumper, kind, last, look, may, most, off, order, pack, passes, promote, school, seen,
                         state, tail, told, told_of, who, wind)
from tests.lines import random_lines

ALL_BUT_BEGIN = [kind(0, 0, 0), jumper(0, 0, 1), gear(1), give(0, 0), back(0), pack(0), check(0), wind(0), days(1),
                 board(0, 0), join(0, 0), off(0), fly(), promote(0), dress(), most(), may(0, 0), who(0), fits(0),
                 due(0), order(), groups(), gap(1), passes(1, 0), look(0), told_of(0), state()]

# How many numbers each call answers where it does not refuse; where that hangs on the first one, how many for each.
FIXED = {0: 1, 1: 1, 2: 1, 3: 1, 4: 1, 5: 1, 6: 1, 7: 1, 8: 1, 9: 1, 10: 1, 11: 1, 12: 1, 13: 2, 14: 1, 16: 1, 17: 1,
         23: 2, 24: 2, 25: 6, 26: 5, 27: 7}
FOR_EACH = {15: 2, 18: 1, 19: 1, 20: 1, 21: 1, 22: 2}


class Guarded(list):
    """A list that refuses to be changed, even for a while."""

    def refuse(self, *given, **named):
        raise AssertionError("what was handed in was changed")

    append = extend = insert = pop = remove = clear = sort = reverse = refuse
    __setitem__ = __delitem__ = __iadd__ = __imul__ = refuse


class TheList(unittest.TestCase):
    def test_each_call_is_answered_by_a_count_and_so_many_numbers(self):
        line = [0, 4, 30, 100, 1, 0, 0, 10, 2, 0, 0, 80, 3, 80, 4, 0, 0, 8, 5, 9, 2, 10, 0, 0, 13, 5, 0]
        self.assertEqual(answers(line), [1, 0, 1, 0, 1, 0, 1, 0, 1, 0, 1, 0, 1, 2, 1, 1, 2, 1, 1, 1, 0])

    def test_all_twenty_eight_calls(self):
        line = [[0, 4, 30, 100], [1, 0, 0, 10], [1, 1, 0, 10], [2, 0, 9, 80], [2, 1, 3, 90], [2, 0, 0, 70], [3, 80],
                [3, 90], [3, 200], [4, 0, 0], [16], [15], [26, 1], [5, 2], [8, 6], [9, 2], [6, 1], [10, 1, 0],
                [11, 0, 1], [21], [22], [12, 1], [10, 1, 1], [21], [22], [23, 30], [24, 30, 3], [24, 30, 4], [25, 1],
                [13], [14, 0], [17, 0, 0], [18, 0], [19, 2], [20, 30], [20, 31], [7, 1], [5, 1], [19, 0], [27]]
        self.assertEqual(told(line), [[0], [0], [1], [0], [1], [2], [0], [1], [2], [0], [2], [2, 2, 1, 1, 2],
                                      [90, 1, 0, 0, 3], [1], [0], [2], [0], [1], [2], [2, 0, 1], [1, 0, 2], [1], [2],
                                      [2, 0, 1], [2, 0, 1, 1, 1], [4, 4], [2, 1], [1, 2], [1, 3, 90, 2, 3, 2],
                                      [2, 2], [1], [-66], [0], [1, 1], [0], [1, 1], [0], [2], [1, 1],
                                      [2, 6, 2, 3, 3, 0, 1]])
        self.assertEqual(sorted({call[0] for call in line}), list(range(28)))

    def test_how_many_numbers_each_call_answers(self):
        there = {}
        for calls in random_lines(7, 60, 300):
            for call, answer in zip(calls, told(calls)):
                if answer[0] >= 0:
                    there[call[0]] = True
                    wanted = FIXED[call[0]] if call[0] in FIXED else 1 + answer[0] * FOR_EACH[call[0]]
                    self.assertEqual(len(answer), wanted, call)
                    self.assertGreaterEqual(min(answer), 0, call)
                else:
                    self.assertEqual(len(answer), 1, call)
        self.assertEqual(sorted(there), list(range(28)))

    def test_a_refusal_is_the_number_alone(self):
        self.assertEqual(answers([13]), [1, -11])
        self.assertEqual(answers([0, 0, 1, 1, 0, 1, 1, 1, 13]), [1, -22, 1, 0, 1, -6])

    def test_what_is_handed_in_stays_and_nothing_is_kept(self):
        for calls in random_lines(8, 40, 300):
            line = flat(calls)
            copy = list(line)
            first = answers(line)
            self.assertEqual(line, copy)
            self.assertEqual(answers([13, 27]), [1, -11, 1, -11])
            self.assertEqual(answers(line), first)
            self.assertEqual(line, copy)

    def test_what_is_handed_in_is_not_changed_for_a_while_either(self):
        for calls in random_lines(9, 20, 300):
            line = flat(calls)
            self.assertEqual(answers(Guarded(line)), answers(line))

    def test_each_time_another_list_is_given_back(self):
        line = flat(school([(0, 0, 80)]) + [board(0, 0), order()])
        first = answers(line)
        first.append(5)
        self.assertEqual(answers(line), first[:-1])

    def test_numbers_are_ints_and_the_list_is_a_list(self):
        for calls in random_lines(10, 20, 300):
            answered = answers(flat(calls))
            self.assertIs(list, answered.__class__)
            for number in answered:
                self.assertIs(int, number.__class__)

    def test_nothing_is_printed(self):
        out, err = io.StringIO(), io.StringIO()
        with contextlib.redirect_stdout(out), contextlib.redirect_stderr(err):
            told(school([(0, 0, 80)]) + [board(0, 0), fly(), fly()] + ALL_BUT_BEGIN)
        self.assertEqual(out.getvalue() + err.getvalue(), "")

    def test_a_line_of_four_hundred_calls(self):
        calls = [begin(1, 1, 1)] + [days(400)] * 399
        self.assertEqual(last(calls), [399 * 400])
        calls = [begin(1, 1, 1)] + [days(400)] * 397 + [state(), look(0)]
        self.assertEqual(told(calls)[-2:], [[397 * 400, 0, 0, 0, 0, 0, 0], [-2]])
        for calls in random_lines(11, 5, 381):
            self.assertEqual(len(calls), 400)
            self.assertEqual(len(told(calls)), 400)

    def test_a_line_of_four_hundred_calls_that_are_as_long_as_can_be(self):
        line = [0, 1, 1, 1] + [1, 0, 0, 0] * 399
        self.assertEqual(len(line), 1600)
        self.assertEqual(answers(line), [1, 0] + [1, 0, 1, 1, 1, 2, 1, 3, 1, 4, 1, 5] + [1, -28] * 393)

    def test_a_list_of_seventeen_hundred_numbers(self):
        # No call has more than four numbers, so that many take more than 400 calls; the list is read all the same.
        line = [0, 1, 1, 1] + [2, 0, 0, 80] * 424
        self.assertEqual(len(line), 1700)
        self.assertEqual(answers(line)[2:], [number for j in range(16) for number in (1, j)] + [1, -28] * 408)
        line = [0, 1, 1, 1] + [0, HUGE, HUGE, HUGE] * 424
        self.assertEqual(answers(line), [1, 0] + [1, -22] * 424)


class NotBegun(unittest.TestCase):
    def test_all_others_answer_so_before_a_begin(self):
        for call in ALL_BUT_BEGIN:
            with self.subTest(call=call):
                self.assertEqual(told([call]), [[-11]])

    def test_ahead_of_every_other_refusal(self):
        for call in ALL_BUT_BEGIN:
            wrong = [call[0]] + [HUGE] * (len(call) - 1)
            with self.subTest(call=wrong):
                self.assertEqual(told([wrong]), [[-11]])

    def test_a_refused_begin_begins_nothing(self):
        for call in ALL_BUT_BEGIN:
            with self.subTest(call=call):
                self.assertEqual(told([begin(17, 1, 1), call]), [[-22], [-11]])

    def test_what_was_called_before_a_begin_is_not_there_after_it(self):
        calls = [kind(0, 0, 0), jumper(0, 0, 1), gear(1), wind(9), days(5), begin(1, 1, 1), kind(0, 0, 0),
                 jumper(0, 0, 1), gear(1), wind(0), days(1)]
        self.assertEqual(told(calls)[5:], [[0], [0], [0], [0], [0], [1]])


class NoneSuch(unittest.TestCase):
    def test_one_beyond_the_last_and_far_beyond(self):
        there = school([(0, 0, 80)])
        for number in (1, 2, HUGE):
            for call in (give(number, 0), give(0, number), back(number), pack(number), check(number),
                         board(number, 0), board(0, number), join(number, 0), join(0, number), off(number),
                         promote(number), may(number, 0), may(0, number), who(number), fits(number), look(number),
                         told_of(number)):
                with self.subTest(call=call):
                    self.assertEqual(last(there + [call]), [-2])
                    self.assertEqual(seen(there + [call]), seen(there))

    def test_where_there_are_none_at_all(self):
        for call in (give(0, 0), back(0), pack(0), check(0), board(0, 0), join(0, 0), off(0), promote(0), may(0, 0),
                     who(0), fits(0), look(0), told_of(0)):
            with self.subTest(call=call):
                self.assertEqual(last([begin(1, 1, 1), call]), [-2])

    def test_kinds_jumpers_and_gear_are_counted_apart(self):
        there = [begin(9, 9, 9)] + [kind(0, 0, 0)] * 2 + [jumper(0, 0, 9)] * 3 + [gear(9)]
        self.assertEqual(last(there + [give(2, 0)]), [0])
        self.assertEqual(last(there + [give(0, 1)]), [-2])
        self.assertEqual(last(there + [give(2, 0), board(2, 1)]), [1])
        self.assertEqual(last(there + [give(2, 0), board(2, 2)]), [-2])
        self.assertEqual(last(there + [pack(1)]), [-2])
        self.assertEqual(last(there + [back(2)]), [-6])
        self.assertEqual(tail(there, [promote(2), promote(3), may(2, 1), may(2, 2), may(3, 1)]),
                         [[-62], [-2], [-65], [-2], [-2]])
        self.assertEqual(tail(there, [who(1), who(2), fits(2), fits(3)]), [[0], [-2], [1, 0], [-2]])
        self.assertEqual(tail(there, [look(2), look(3), told_of(0), told_of(1)]),
                         [[0, 0, 9, 0, 0, 0], [-2], [9, 1, 0, 0, 0], [-2]])

    def test_ahead_of_what_else_is_due(self):
        aboard = school([(0, 0, 80), (0, 0, 80)], seats=1) + [board(0, 0)]
        self.assertEqual(last(aboard + [give(0, 2)]), [-2])
        self.assertEqual(last(aboard + [give(2, 0)]), [-2])
        self.assertEqual(last(aboard + [board(0, 1)]), [-2])
        self.assertEqual(last(aboard + [board(2, 0)]), [-2])
        self.assertEqual(last(aboard + [board(1, 1)]), [-2])
        self.assertEqual(last(aboard + [join(0, 2)]), [-2])
        self.assertEqual(last(aboard + [join(2, 1)]), [-2])

    def test_ahead_of_why_they_may_not(self):
        calls = school([(0, 0, 80)], kinds=((3, 900, 0),)) + [wind(50), days(400), back(0)]
        self.assertEqual(tail(calls, [may(0, 0), may(0, 1), may(1, 0)]), [[-61], [-2], [-2]])


if __name__ == "__main__":
    unittest.main()
