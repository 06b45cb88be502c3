"""The calls that tell of a wall once it is begun: each takes the wall and the call's numbers.

Each answers a list of numbers, a refusal as a list of that number alone, and leaves
the wall as it is: what must be tried is tried on a copy.
"""

from wallscaffold.calls import CANNOT_BE, NONE_THERE, NO_SUCH, take, untie
from wallscaffold.wall import GROUND, by_levels, copied, frame_heights, frame_loads, ground_loads, own_loads
from wallscaffold.wall import steps_from, stuck_persons, too_much


# How many places these are, then the bay and the level of each.
def listed(places):
    told = [len(places)]
    for place in by_levels(places):
        told.extend([place[0], place[1]])
    return told


def bears(wall, numbers):
    place = (numbers[0], numbers[1])
    if place not in wall.frames:
        return [NO_SUCH]
    borne = frame_loads(wall)[place]
    return [borne, wall.most - borne]


def feet(wall, numbers):
    loads = ground_loads(wall, frame_loads(wall))
    return [sum(loads)] + loads


def room(wall, numbers):
    place = (numbers[0], numbers[1])
    if place not in wall.frames:
        return [NO_SUCH]
    trial = copied(wall)
    things = wall.things.get(place, 0)
    # More on a deck never makes a frame bear less, so the bound is found by halving.
    # A frame weighs something itself: so many things as its most never fit.
    fits = 0
    fails = wall.most
    while fails - fits > 1:
        more = (fits + fails) // 2
        trial.things[place] = things + more
        if too_much(trial):
            fails = more
        else:
            fits = more
    return [fits]


def high(wall, numbers):
    place = (numbers[0], numbers[1])
    if place not in wall.frames:
        return [NO_SUCH]
    return [frame_heights(wall)[place]]


def way(wall, numbers):
    person = numbers[0]
    place = (numbers[1], numbers[2])
    if person >= len(wall.spots) or place not in wall.frames:
        return [NO_SUCH]
    steps = steps_from(wall, wall.spots[person])
    if place not in steps:
        return [CANNOT_BE]
    return [steps[place]]


def taken_now(wall, numbers):
    return listed([place for place in wall.frames if take(copied(wall), place) >= 0])


def loose(wall, numbers):
    return listed([place for place in wall.ties if untie(copied(wall), place) >= 0])


def reached(wall, numbers):
    return listed([spot for spot in steps_from(wall, GROUND) if spot != GROUND])


def cut(wall, numbers):
    place = (numbers[0], numbers[1])
    if place not in wall.frames:
        return [NO_SUCH]
    if place not in wall.ladders:
        return [NONE_THERE]
    trial = copied(wall)
    trial.ladders.pop(place)
    stuck = stuck_persons(trial)
    return [len(stuck)] + stuck


def most(wall, numbers):
    if len(wall.frames) == 0:
        return [NONE_THERE]
    loads = frame_loads(wall)
    heaviest = max(loads.values())
    first = [place for place in by_levels(loads) if loads[place] == heaviest][0]
    return [heaviest, first[0], first[1]]


def look(wall, numbers):
    place = (numbers[0], numbers[1])
    if place not in wall.frames:
        return [NO_SUCH]
    tied = 1 if place in wall.ties else 0
    persons = sum([weight for spot, weight in zip(wall.spots, wall.weights) if spot == place])
    has_ladder = 1 if place in wall.ladders else 0
    return [wall.frames[place], tied, wall.things.get(place, 0), persons, has_ladder]


def where(wall, numbers):
    person = numbers[0]
    if person >= len(wall.spots):
        return [NO_SUCH]
    spot = wall.spots[person]
    if spot == GROUND:
        return [0, wall.weights[person], 0, 0]
    return [1, wall.weights[person], spot[0], spot[1]]


def sums(wall, numbers):
    things = sum(wall.things.values())
    persons_up = len([spot for spot in wall.spots if spot != GROUND])
    weight = sum(own_loads(wall).values())
    return [len(wall.frames), len(wall.ties), len(wall.ladders), things, persons_up, weight]


def state(wall, numbers):
    return [wall.bays, wall.levels, wall.weight, wall.most, wall.free, len(wall.spots)]


TELLS = {
    14: bears,
    15: feet,
    16: room,
    17: high,
    18: way,
    19: taken_now,
    20: loose,
    21: reached,
    22: cut,
    23: most,
    24: look,
    25: where,
    26: sums,
    27: state,
}


def tell(wall, number, numbers):
    return TELLS[number](wall, numbers)
