"""Made-up lines with all 28 calls: the same ones whenever the tests are run.

The model is asked what stands where, so that most calls have something to do.
"""

import random

from tests.calling import LARGEST, NUMBER_OF
from tests.model import Model

LAST_CHANGE = 13
NO_NUMBERS = (15, 19, 20, 21, 23, 26, 27)
# How often each call from begin to down is made: on a line where much is built, on one where there's much coming
# and going, and on one of many beams.
OFTEN = (
    (0, 2, 24, 16, 6, 5, 4, 12, 4, 14, 4, 4, 16, 3),
    (0, 1, 16, 6, 12, 4, 3, 3, 6, 4, 3, 6, 36, 4),
    (0, 2, 16, 40, 2, 6, 3, 10, 4, 4, 1, 2, 6, 1),
)


def made_number(dice, usual):
    """Mostly a usual one; now and then one just past it, or a very large one."""
    chance = dice.randrange(60)
    if chance == 0:
        return LARGEST
    if chance == 1:
        return usual
    return dice.randrange(usual)


def made_begin(dice):
    if dice.randrange(10) == 0:
        return [0] + [dice.choice((0, 1, 4, 5, 6, 7, 8, 9, 100, 101, 500, 501)) for index in range(5)]
    weight = dice.choice((1, 3, 10, 11))
    return [0, dice.randrange(1, 9), dice.randrange(1, 7), weight, dice.choice((weight, 40, 75, 101, 200, 500)),
            dice.randrange(1, 5)]


def fitting_places(state, number, bricks):
    """Where a call has something to do; with bricks, frames that stand leave gaps for beams."""
    frames = state["frames"]
    free = [(b, l) for b in range(state["bays"]) for l in range(state["levels"]) if (b, l) not in frames]
    if number == NUMBER_OF["put"]:
        fitting = [(b, l) for b, l in free if l == 0 or (b, l - 1) in frames]
        return [(b, l) for b, l in fitting if b % 2 == 0 and l == 0] if bricks else fitting
    if number == NUMBER_OF["span"]:
        return [(b, l) for b, l in free
                if (b, l - 1) not in frames and (b - 1, l - 1) in frames and (b + 1, l - 1) in frames]
    return list(frames)


def made_place(dice, state, number, bricks):
    if state is None:
        return [made_number(dice, 8), made_number(dice, 6)]
    fitting = fitting_places(state, number, bricks)
    if fitting and dice.randrange(4) > 0:
        return list(dice.choice(fitting))
    return [made_number(dice, state["bays"]), made_number(dice, state["levels"])]


def made_person(dice, state):
    return made_number(dice, max(1, len(state["persons"])) if state else 8)


def made_call(dice, state, number, bricks):
    place = made_place(dice, state, number, bricks)
    if number in NO_NUMBERS:
        return [number]
    if number == NUMBER_OF["soil"]:
        return [number, place[0], dice.choice((0, 9, 20, 33, 50, 80, 150, 10000, 10001))]
    if number in (NUMBER_OF["load"], NUMBER_OF["unload"]):
        return [number] + place + [dice.choice((0, 1, 1, 2, 3, 5, 7, 20, 33, 400, 1000, 1001))]
    if number == NUMBER_OF["come"]:
        return [number, dice.choice((0, 1, 5, 9, 14, 30, 61, 200, 201))]
    if number in (NUMBER_OF["go"], NUMBER_OF["way"]):
        return [number, made_person(dice, state)] + place
    if number in (NUMBER_OF["down"], NUMBER_OF["where"]):
        return [number, made_person(dice, state)]
    return [number] + place


def made_line(seed, length):
    dice = random.Random(seed)
    model = Model()
    often = OFTEN[seed % 3]
    bricks = seed % 3 == 2
    calls = [made_begin(dice)]
    model.answer(calls[0])
    while len(calls) < length:
        chance = dice.randrange(300)
        if chance == 0:
            call = made_begin(dice)
        elif chance < 100:
            call = made_call(dice, model.state, dice.randrange(LAST_CHANGE + 1, 28), bricks)
        else:
            call = made_call(dice, model.state, dice.choices(range(LAST_CHANGE + 1), weights=often)[0], bricks)
        if call[0] <= LAST_CHANGE:
            model.answer(call)
        calls.append(call)
    return calls


LINES = [made_line(seed, 220) for seed in range(150)]
