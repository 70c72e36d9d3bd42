"""The interface: how calls are read and answered, -11 and -2, what is refused changes nothing."""

import contextlib
import io
import random
import unittest

from jumpschool.school import answers
from tests.calls import (HUGE, back, begin, board, check, days, fly, gear, give, join, jumper, kind, last, off, pack,
                         school, told, wind)

ALL_BUT_BEGIN = [kind(0, 0, 0), jumper(0, 0, 1), gear(1), give(0, 0), back(0), pack(0), check(0), wind(0), days(1),
                 board(0, 0), join(0, 0), off(0), fly()]


class TheList(unittest.TestCase):
    def test_each_call_is_answered_by_a_count_and_so_many_numbers(self):
        line = [0, 4, 30, 100, 1, 0, 0, 10, 2, 0, 0, 80, 3, 80, 4, 0, 0, 8, 5, 9, 2, 10, 0, 0, 13, 5, 0]
        self.assertEqual(answers(line), [1, 0, 1, 0, 1, 0, 1, 0, 1, 0, 1, 0, 1, 2, 1, 1, 2, 1, 1, 1, 0])

    def test_all_fourteen_calls(self):
        line = [[0, 4, 30, 100], [1, 0, 0, 10], [2, 0, 0, 80], [2, 1, 3, 90], [3, 80], [3, 90], [4, 0, 0], [4, 1, 1],
                [8, 6], [9, 2], [6, 1], [10, 1, 0], [11, 0, 1], [12, 1], [10, 1, 0], [13], [7, 1], [5, 1]]
        self.assertEqual(told(line), [[0], [0], [0], [1], [0], [1], [0], [0], [0], [2], [0], [1], [2], [1], [2], [2, 2],
                                      [1], [1]])

    def test_a_refusal_is_the_number_alone(self):
        self.assertEqual(answers([13]), [1, -11])
        self.assertEqual(answers([0, 0, 1, 1, 0, 1, 1, 1, 13]), [1, -22, 1, 0, 1, -6])

    def test_what_is_handed_in_stays_and_nothing_is_kept(self):
        calls = school([(0, 0, 80), (0, 0, 80)]) + [board(0, 0), join(1, 0), fly(), wind(9), days(3)]
        line = [number for call in calls for number in call]
        copy = list(line)
        first = answers(line)
        self.assertEqual(line, copy)
        self.assertEqual(answers(line), first)
        self.assertEqual(answers([13]), [1, -11])
        self.assertEqual(line, copy)

    def test_numbers_are_ints_and_the_list_is_a_list(self):
        calls = school([(0, 0, 80)]) + [pack(0), days(1), pack(0), board(0, 0), fly(), check(0), back(0), wind(3)]
        answered = answers([number for call in calls for number in call])
        self.assertIs(list, answered.__class__)
        for number in answered:
            self.assertIs(int, number.__class__)

    def test_nothing_is_printed(self):
        out, err = io.StringIO(), io.StringIO()
        with contextlib.redirect_stdout(out), contextlib.redirect_stderr(err):
            told(school([(0, 0, 80)]) + [board(0, 0), fly(), fly()])
        self.assertEqual(out.getvalue() + err.getvalue(), "")

    def test_a_line_of_four_hundred_calls(self):
        calls = [begin(1, 1, 1)] + [days(400)] * 399
        self.assertEqual(last(calls), [399 * 400])


class NotBegun(unittest.TestCase):
    def test_all_others_answer_so_before_a_begin(self):
        for call in ALL_BUT_BEGIN:
            with self.subTest(call=call):
                self.assertEqual(told([call]), [[-11]])

    def test_ahead_of_every_other_refusal(self):
        for call in ALL_BUT_BEGIN:
            wrong = [call[0]] + [HUGE] * (len(call) - 1)
            with self.subTest(call=wrong):
                self.assertEqual(told([wrong]), [[-11]])

    def test_a_refused_begin_begins_nothing(self):
        for call in ALL_BUT_BEGIN:
            with self.subTest(call=call):
                self.assertEqual(told([begin(17, 1, 1), call]), [[-22], [-11]])

    def test_what_was_called_before_a_begin_is_not_there_after_it(self):
        calls = [kind(0, 0, 0), jumper(0, 0, 1), gear(1), wind(9), days(5), begin(1, 1, 1), kind(0, 0, 0),
                 jumper(0, 0, 1), gear(1), wind(0), days(1)]
        self.assertEqual(told(calls)[5:], [[0], [0], [0], [0], [0], [1]])


class NoneSuch(unittest.TestCase):
    def test_one_beyond_the_last_and_far_beyond(self):
        there = school([(0, 0, 80)])
        for number in (1, 2, HUGE):
            for call in (give(number, 0), give(0, number), back(number), pack(number), check(number),
                         board(number, 0), board(0, number), join(number, 0), join(0, number), off(number)):
                with self.subTest(call=call):
                    self.assertEqual(last(there + [call]), [-2])

    def test_where_there_are_none_at_all(self):
        for call in (give(0, 0), back(0), pack(0), check(0), board(0, 0), join(0, 0), off(0)):
            with self.subTest(call=call):
                self.assertEqual(last([begin(1, 1, 1), call]), [-2])

    def test_kinds_jumpers_and_gear_are_counted_apart(self):
        there = [begin(9, 9, 9), kind(0, 0, 0), kind(0, 0, 0), jumper(0, 0, 9), jumper(0, 0, 9), jumper(0, 0, 9), gear(9)]
        self.assertEqual(last(there + [give(2, 0)]), [0])
        self.assertEqual(last(there + [give(0, 1)]), [-2])
        self.assertEqual(last(there + [give(2, 0), board(2, 1)]), [1])
        self.assertEqual(last(there + [give(2, 0), board(2, 2)]), [-2])
        self.assertEqual(last(there + [pack(1)]), [-2])
        self.assertEqual(last(there + [back(2)]), [-6])

    def test_ahead_of_what_else_is_due(self):
        aboard = school([(0, 0, 80), (0, 0, 80)], seats=1) + [board(0, 0)]
        self.assertEqual(last(aboard + [give(0, 2)]), [-2])
        self.assertEqual(last(aboard + [give(2, 0)]), [-2])
        self.assertEqual(last(aboard + [board(0, 1)]), [-2])
        self.assertEqual(last(aboard + [board(2, 0)]), [-2])
        self.assertEqual(last(aboard + [board(1, 1)]), [-2])
        self.assertEqual(last(aboard + [join(0, 2)]), [-2])
        self.assertEqual(last(aboard + [join(2, 1)]), [-2])


class Refused(unittest.TestCase):
    def random_call(self, chance):
        number = chance.randrange(14)
        few = chance.randrange(5)
        other = chance.randrange(5)
        if number == 0:
            number = chance.choice([0, 10, 10, 10, 10])
        if number == 0:
            return begin(chance.choice([0, 2, 3, 17]), chance.choice([0, 2, 401]), 100)
        if number == 1:
            return kind(chance.randrange(5), chance.randrange(3), chance.randrange(4))
        if number == 2:
            return jumper(chance.randrange(5), chance.randrange(4), chance.choice([0, 60, 80, 90, 201]))
        if number == 3:
            return gear(chance.choice([0, 60, 80, 90, 201]))
        if number == 8:
            return wind(chance.choice([0, 5, 7, 9, 12, 51]))
        if number == 9:
            return days(chance.choice([0, 1, 1, 1, 401]))
        if number == 13:
            return fly()
        if number in (4, 10, 11):
            return [number, few, other]
        return [number, few]

    def test_what_is_refused_changes_nothing(self):
        # The line without its refused calls must answer the same: a refused call that left a trace would show.
        chance = random.Random(2026)
        refusals = {}
        for turn in range(600):
            calls = [begin(3, 2, 100), kind(0, 0, 3), kind(1, 1, 2), jumper(0, 0, 80), jumper(1, 3, 80), jumper(2, 3, 60),
                     jumper(3, 9, 60), gear(80), gear(80), gear(90), gear(60), give(0, 0), give(1, 1), give(2, 2),
                     give(3, 3)]
            calls += [self.random_call(chance) for at in range(120)]
            answered = told(calls)
            kept = [at for at in range(len(calls)) if answered[at][0] >= 0]
            for at in range(len(calls)):
                refusals[answered[at][0]] = True
                if answered[at][0] < 0:
                    self.assertEqual(len(answered[at]), 1)
            self.assertEqual(told([calls[at] for at in kept]), [answered[at] for at in kept])
        for number in (-2, -6, -16, -17, -22, -28, -61, -62, -63, -64, -65, -66, -67, -71):
            self.assertIn(number, refusals)


if __name__ == "__main__":
    unittest.main()
