"""Long lines of mixed calls, the same each time, for what holds over the whole program."""

import random

from tests.calls import begin, gear, give, jumper, kind

BEGINNING = [begin(4, 3, 100), kind(0, 0, 6), kind(1, 1, 4), kind(0, 0, 9), jumper(0, 0, 80), jumper(0, 9, 80),
             jumper(1, 49, 60), jumper(2, 199, 70), jumper(3, 9, 60), jumper(0, 12, 95), gear(80), gear(80), gear(90),
             gear(60), gear(70), give(0, 0), give(1, 1), give(2, 3), give(3, 2)]

# The calls that change nothing, refused or not.
ASKING = (16, 17, 18, 19, 20, 21, 22, 23, 24, 25, 26, 27)

WEIGHTS = (0, 60, 70, 80, 90, 201)


def random_begin(chance):
    return begin(chance.choice((0, 3, 4, 17)), chance.choice((0, 3, 401)), chance.choice((0, 1, 100, 2000, 2001)))


def random_call(chance):
    # A begin that answers 0 ends all that was there, so it comes seldom; boarding and flying come often.
    number = chance.choice(tuple(range(1, 28)) + (6, 6, 6, 10, 10, 10, 11, 11, 11, 13, 13))
    if chance.randrange(120) == 0:
        return random_begin(chance)
    if number == 1:
        return kind(chance.randrange(5), chance.randrange(3), chance.randrange(4))
    if number == 2:
        return jumper(chance.randrange(5), chance.choice((0, 9, 10, 50, 1001)), chance.choice(WEIGHTS))
    if number == 3:
        return [3, chance.choice(WEIGHTS)]
    if number == 8:
        return [8, chance.choice((0, 0, 0, 3, 5, 6, 7, 9, 12, 51))]
    if number in (9, 20):
        return [number, chance.choice((0, 1, 1, 2, 401))]
    if number == 23:
        return [23, chance.choice((0, 1, 30, 50, 200, 201))]
    if number == 24:
        return [24, chance.choice((0, 1, 30, 50, 200, 201)), chance.choice((0, 1, 4, 600, 601))]
    if number in (13, 15, 16, 21, 22, 27):
        return [number]
    if number in (4, 10, 11, 17):
        return [number, chance.randrange(7), chance.randrange(4 if number == 10 else 7)]
    return [number, chance.randrange(7)]


def random_lines(seed, how_many, length):
    chance = random.Random(seed)
    return [BEGINNING + [random_call(chance) for at in range(length)] for turn in range(how_many)]
