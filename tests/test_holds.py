"""What holds, a to f, over long lines of all calls mixed."""

import itertools
import random
import unittest

from tests.calls import (begin, board, dress, fly, gap, gear, jumper, last, may, most, passes, school, seen, tail, told,
                         wind)
from tests.lines import ASKING, BEGINNING, random_lines

JUMPERS = range(16)
GEAR = range(12)


class Sight:
    """What is seen of the school behind some calls."""

    def __init__(self, calls):
        answers = seen(calls)
        self.all = answers
        self.jumpers = {j: answers[j] for j in JUMPERS if answers[j] != [-2]}
        self.gear = {g: answers[16 + g] for g in GEAR if answers[16 + g] != [-2]}
        self.state = answers[28]
        self.order = answers[29][1:]
        self.groups = list(zip(answers[30][1::2], answers[30][2::2]))

    def worn(self):
        return {j: told[4] - 1 for j, told in self.jumpers.items() if told[4] > 0}

    def aboard(self):
        return {j: told[5] - 1 for j, told in self.jumpers.items() if told[5] > 0}


def steps(seed, how_many, length):
    """Behind each call of random lines: the calls up to it, and what is seen then."""
    for calls in random_lines(seed, how_many, length):
        for behind in range(len(BEGINNING), len(calls) + 1):
            yield calls[:behind], Sight(calls[:behind])


def seats_of(calls):
    """The seats of the last begin that was not refused."""
    answers = told(calls)
    return [call[1] for call, answer in zip(calls, answers) if call[0] == 0 and answer == [0]][-1]


def most_pairs(weights, bears):
    """How many can be given gear at most: every way is tried."""
    for how_many in range(min(len(weights), len(bears)), 0, -1):
        for people in itertools.combinations(weights, how_many):
            for pieces in itertools.permutations(bears, how_many):
                if all(weight <= strong for weight, strong in zip(people, pieces)):
                    return how_many
    return 0


class GearIsOnePersons(unittest.TestCase):
    def test_a_no_gear_is_two_peoples_and_none_is_too_weak(self):
        for calls, sight in steps(21, 15, 120):
            worn = sight.worn()
            self.assertEqual(len(set(worn.values())), len(worn))
            self.assertEqual(worn, {piece[4] - 1: g for g, piece in sight.gear.items() if piece[4] > 0})
            for j, g in worn.items():
                self.assertLessEqual(sight.jumpers[j][2], sight.gear[g][0])


class AsManyAsCanBe(unittest.TestCase):
    def is_good(self, piece, pack_days):
        return piece[1] == 1 and piece[2] <= pack_days and piece[3] < 50

    def test_b_dress_gives_gear_to_as_many_as_can_be(self):
        chance = random.Random(22)
        for turn in range(400):
            weights = [chance.randrange(60, 68) for j in range(chance.randrange(6))]
            bears = [chance.randrange(58, 68) for g in range(chance.randrange(6))]
            calls = [begin(1, 1, 1)] + [jumper(0, 0, weight) for weight in weights] + [gear(strong) for strong in bears]
            answer = last(calls + [dress()])
            self.assertEqual(answer[0], most_pairs(weights, bears), (weights, bears))
            self.assertEqual(last(calls + [most()]), answer[:1])

    def test_b_whoever_is_given_some_had_none(self):
        given = 0
        for calls, sight in steps(23, 12, 100):
            answer = last(calls + [dress()])
            after = Sight(calls + [dress()])
            pairs = list(zip(answer[1::2], answer[2::2]))
            self.assertEqual(last(calls + [most()]), [len(pairs)])
            for j, g in pairs:
                given += 1
                self.assertEqual(sight.jumpers[j][4], 0)
                self.assertEqual(sight.gear[g][4], 0)
                self.assertTrue(self.is_good(sight.gear[g], 3))
                self.assertLessEqual(sight.jumpers[j][2], sight.gear[g][0])
            self.assertEqual(after.worn(), {**sight.worn(), **dict(pairs)})
            free = [piece[0] for piece in sight.gear.values() if piece[4] == 0 and self.is_good(piece, 3)]
            bare = [told[2] for told in sight.jumpers.values() if told[4] == 0]
            if len(free) <= 6 and len(bare) <= 6:
                self.assertEqual(len(pairs), most_pairs(bare, free))
        self.assertGreater(given, 100)


class WhoFliesMayJump(unittest.TestCase):
    def test_c_each_may_and_has_jumped_once_more(self):
        flown = 0
        refused = 0
        for calls, sight in steps(24, 50, 120):
            aboard = sight.aboard()
            if not aboard:
                self.assertEqual(last(calls + [fly()]), [-6])
                continue
            whys = [answer[0] for answer in tail(calls, [may(j, aboard[j]) for j in sight.order])]
            answer = last(calls + [fly()])
            if any(whys):
                refused += 1
                self.assertEqual(answer, [[why for why in whys if why != 0][0]])
                self.assertEqual(seen(calls + [fly()]), sight.all)
                continue
            flown += 1
            self.assertEqual(answer, [len(aboard), len(sight.groups)])
            self.check_flown(sight, Sight(calls + [fly()]))
        self.assertGreater(flown, 100)
        self.assertGreater(refused, 100)

    def check_flown(self, sight, after):
        aboard = sight.aboard()
        for j, told_before in sight.jumpers.items():
            licence, jumps, weight, ago, wears, kind_and_one = told_before
            wanted = [licence, jumps + 1, weight, 0, wears, 0] if j in aboard else told_before
            self.assertEqual(after.jumpers[j], wanted)
        for g, piece in sight.gear.items():
            bears, packed, ago, jumps, wearer = piece
            wanted = [bears, 0, ago, jumps + 1, wearer] if wearer - 1 in aboard else piece
            self.assertEqual(after.gear[g], wanted)
        self.assertEqual(after.state, sight.state[:5] + [0, sight.state[6] + 1])
        self.assertEqual((after.order, after.groups), ([], []))


class TheLoad(unittest.TestCase):
    def test_d_no_more_than_its_seats_and_each_in_just_one_group(self):
        full = 0
        for calls, sight in steps(25, 30, 120):
            seats = seats_of(calls)
            self.assertLessEqual(len(sight.order), seats)
            full += len(sight.order) == seats
            self.assertEqual(sorted(sight.order), sorted(sight.aboard()))
            self.assertEqual(sight.state[5], len(sight.order))
            self.assertEqual(sum(size for k, size in sight.groups), len(sight.order))
            self.assertNotIn(0, [size for k, size in sight.groups])
        self.assertGreater(full, 30)

    def test_d_they_leave_by_kinds_the_larger_groups_first(self):
        several = 0
        for calls, sight in steps(26, 25, 120):
            aboard = sight.aboard()
            left = list(sight.order)
            ranks = []
            for k, size in sight.groups:
                members, left = left[:size], left[size:]
                self.assertEqual(members, sorted(members))
                self.assertEqual([aboard[j] for j in members], [k] * size)
                ranks.append((k, -size, members[0]))
            self.assertEqual(ranks, sorted(ranks))
            several += len(set(ranks)) > 1 and len(ranks) < len(aboard)
        self.assertGreater(several, 30)


class FarEnoughApart(unittest.TestCase):
    def load(self, metres, how_many):
        return school([(0, 0, 80)] * how_many, metres=metres) + [board(j, 0) for j in range(how_many)]

    def fewest_passes(self, how_many, apart, seconds):
        """Pass by pass, each group leaves as soon as it may."""
        used = 0
        while how_many > 0:
            used += 1
            at = 0
            while how_many > 0 and at <= seconds:
                how_many -= 1
                at += apart
        return used

    def test_e_by_a_second_less_they_are_not(self):
        for metres in (1, 2, 99, 100, 101, 199, 200, 201, 997, 1999, 2000):
            speeds = range(1, 201)
            for speed, answer in zip(speeds, tail(self.load(metres, 4), [gap(speed) for speed in speeds])):
                self.assertGreaterEqual(answer[0] * speed, metres)
                self.assertLess((answer[0] - 1) * speed, metres)
                self.assertEqual(answer[1], 3 * answer[0])

    def test_e_in_so_many_passes_all_leave_in_fewer_not(self):
        chance = random.Random(27)
        for turn in range(60):
            how_many = chance.randrange(13)
            metres = chance.choice((1, 7, 100, 101, 600, 2000))
            calls = self.load(metres, how_many)
            asked = [(chance.choice((1, 3, 50, 60, 200)), chance.choice((0, 1, 2, 9, 10, 33, 40, 599, 600)))
                     for at in range(40)]
            for (speed, seconds), answer in zip(asked, tail(calls, [passes(*each) for each in asked])):
                apart = last(calls + [gap(speed)])[0]
                self.assertEqual(answer[0], self.fewest_passes(how_many, apart, seconds))
                self.assertLessEqual((answer[1] - 1) * apart, seconds)
                self.assertGreater(answer[1] * apart, seconds)

    def test_e_over_lines(self):
        for calls, sight in steps(28, 8, 100):
            apart, between = last(calls + [gap(30)])
            self.assertEqual(between, max(len(sight.groups) - 1, 0) * apart)
            for seconds in (0, 3, 4, 8):
                self.assertEqual(last(calls + [passes(30, seconds)])[0],
                                 self.fewest_passes(len(sight.groups), apart, seconds))


class WindAndRefusals(unittest.TestCase):
    def test_f_who_may_jump_in_a_stronger_wind_may_in_a_weaker_one(self):
        chance = random.Random(29)
        borne = {}
        for calls in random_lines(29, 60, 100):
            j, k = chance.randrange(6), chance.randrange(3)
            asked = [call for strong in range(51) for call in (wind(strong), may(j, k))]
            whys = [answer[0] for answer in tail(calls, asked)[1::2]]
            mays = [strong for strong in range(51) if whys[strong] == 0]
            self.assertEqual(mays, list(range(len(mays))))
            borne[len(mays)] = True
        # Nobody bears more than the four licences do.
        self.assertTrue(set(borne) <= {0, 7, 10, 13, 16}, borne)
        self.assertGreaterEqual(len(borne), 4)

    def test_f_what_is_refused_changes_nothing(self):
        refusals = {}
        for calls in random_lines(30, 25, 120):
            answers = told(calls)
            before = seen(calls[:len(BEGINNING)])
            for at in range(len(BEGINNING), len(calls)):
                after = seen(calls[:at + 1])
                if answers[at][0] < 0:
                    refusals[calls[at][0]] = True
                if answers[at][0] < 0 or calls[at][0] in ASKING:
                    self.assertEqual(after, before, calls[at])
                before = after
        for number in (0, 1, 2, 3, 4, 5, 6, 8, 9, 10, 11, 12, 13, 14, 17, 18, 19, 20, 23, 24, 25, 26):
            self.assertIn(number, refusals)

    def test_f_without_what_is_refused_and_what_only_asks_all_others_answer_the_same(self):
        refusals = {}
        for calls in random_lines(31, 250, 300):
            answers = told(calls)
            for answer in answers:
                refusals[answer[0]] = True
            kept = [at for at in range(len(calls)) if answers[at][0] >= 0]
            self.assertEqual(told([calls[at] for at in kept]), [answers[at] for at in kept])
            kept = [at for at in kept if calls[at][0] not in ASKING]
            self.assertEqual(told([calls[at] for at in kept]), [answers[at] for at in kept])
        for number in (-2, -6, -16, -17, -22, -28, -61, -62, -63, -64, -65, -66, -67, -71):
            self.assertIn(number, refusals)


if __name__ == "__main__":
    unittest.main()
