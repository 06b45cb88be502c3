"""The calls that change a wall once it is begun: each takes the wall and the call's numbers.

A call may have changed the wall it was handed when it answers a refusal: whoever
calls it hands in a copy, and keeps that copy only if nothing was refused.
"""

from wallscaffold.wall import GROUND, GROUND_BEARS, ON_BEAM, STANDS, above, beam_ends, below, carries_some
from wallscaffold.wall import somebody_stuck, steps_from, too_high, too_much

NO_SUCH = -2
NONE_THERE = -6
STUCK = -12
HAS_LADDER = -13
IS_TIED = -14
NOT_EMPTY = -15
CARRIES = -16
SO_ALREADY = -17
OUT_OF_RANGE = -22
TOO_MANY = -28
CANNOT_BE = -33
TOO_HIGH = -40
TOO_MUCH = -41

MOST_THINGS = 1000
MOST_PERSONS = 8
HEAVIEST_PERSON = 200


def has_place(wall, place):
    return place[0] < wall.bays and place[1] < wall.levels


def set_up(wall, place, kind):
    wall.frames[place] = kind
    if too_high(wall):
        return TOO_HIGH
    if too_much(wall):
        return TOO_MUCH
    return len(wall.frames)


def soil(wall, numbers):
    bay = numbers[0]
    if bay >= wall.bays or numbers[1] > GROUND_BEARS:
        return OUT_OF_RANGE
    before = wall.ground[bay]
    wall.ground[bay] = numbers[1]
    if too_much(wall):
        return TOO_MUCH
    return before


def put(wall, numbers):
    place = (numbers[0], numbers[1])
    if not has_place(wall, place):
        return OUT_OF_RANGE
    if place in wall.frames:
        return SO_ALREADY
    if place[1] != 0 and below(place) not in wall.frames:
        return CANNOT_BE
    return set_up(wall, place, STANDS)


def span(wall, numbers):
    place = (numbers[0], numbers[1])
    if not has_place(wall, place) or place[1] == 0:
        return OUT_OF_RANGE
    if place in wall.frames:
        return SO_ALREADY
    if below(place) in wall.frames or not all([end in wall.frames for end in beam_ends(place)]):
        return CANNOT_BE
    return set_up(wall, place, ON_BEAM)


def take(wall, numbers):
    place = (numbers[0], numbers[1])
    if place not in wall.frames:
        return NO_SUCH
    if carries_some(wall, place):
        return CARRIES
    if wall.things.get(place, 0) > 0 or place in wall.spots:
        return NOT_EMPTY
    if place in wall.ties:
        return IS_TIED
    if place in wall.ladders or above(place) in wall.ladders:
        return HAS_LADDER
    wall.frames.pop(place)
    wall.things.pop(place, 0)
    if somebody_stuck(wall):
        return STUCK
    return len(wall.frames)


def tie(wall, numbers):
    place = (numbers[0], numbers[1])
    if place not in wall.frames:
        return NO_SUCH
    if place in wall.ties:
        return SO_ALREADY
    wall.ties[place] = True
    return len(wall.ties)


def untie(wall, numbers):
    place = (numbers[0], numbers[1])
    if place not in wall.frames:
        return NO_SUCH
    if place not in wall.ties:
        return NONE_THERE
    wall.ties.pop(place)
    if too_high(wall):
        return TOO_HIGH
    return len(wall.ties)


def load(wall, numbers):
    place = (numbers[0], numbers[1])
    if place not in wall.frames:
        return NO_SUCH
    if not 1 <= numbers[2] <= MOST_THINGS:
        return OUT_OF_RANGE
    wall.things[place] = wall.things.get(place, 0) + numbers[2]
    if too_much(wall):
        return TOO_MUCH
    return wall.things[place]


def unload(wall, numbers):
    place = (numbers[0], numbers[1])
    if place not in wall.frames:
        return NO_SUCH
    if not 1 <= numbers[2] <= MOST_THINGS:
        return OUT_OF_RANGE
    left = wall.things.get(place, 0) - numbers[2]
    if left < 0:
        return NONE_THERE
    wall.things[place] = left
    return left


def ladder(wall, numbers):
    place = (numbers[0], numbers[1])
    if place not in wall.frames:
        return NO_SUCH
    if place in wall.ladders:
        return SO_ALREADY
    if place[1] != 0 and below(place) not in wall.frames:
        return CANNOT_BE
    wall.ladders[place] = True
    return 0


def noladder(wall, numbers):
    place = (numbers[0], numbers[1])
    if place not in wall.frames:
        return NO_SUCH
    if place not in wall.ladders:
        return NONE_THERE
    wall.ladders.pop(place)
    if somebody_stuck(wall):
        return STUCK
    return 0


def come(wall, numbers):
    if len(wall.spots) == MOST_PERSONS:
        return TOO_MANY
    if not 1 <= numbers[0] <= HEAVIEST_PERSON:
        return OUT_OF_RANGE
    wall.weights.append(numbers[0])
    wall.spots.append(GROUND)
    return len(wall.spots) - 1


def go(wall, numbers):
    person = numbers[0]
    place = (numbers[1], numbers[2])
    if person >= len(wall.spots) or place not in wall.frames:
        return NO_SUCH
    if wall.spots[person] == place:
        return SO_ALREADY
    steps = steps_from(wall, wall.spots[person])
    if place not in steps:
        return CANNOT_BE
    wall.spots[person] = place
    # Only where they come to rest they weigh: the way there is not asked.
    if too_much(wall):
        return TOO_MUCH
    return steps[place]


def down(wall, numbers):
    person = numbers[0]
    if person >= len(wall.spots):
        return NO_SUCH
    if wall.spots[person] == GROUND:
        return SO_ALREADY
    steps = steps_from(wall, wall.spots[person])
    wall.spots[person] = GROUND
    return steps[GROUND]


CHANGES = {
    1: soil,
    2: put,
    3: span,
    4: take,
    5: tie,
    6: untie,
    7: load,
    8: unload,
    9: ladder,
    10: noladder,
    11: come,
    12: go,
    13: down,
}


def change(wall, number, numbers):
    return CHANGES[number](wall, numbers)
