"""What stands along the wall, who is on it, and what follows from both."""

STANDS = 1
ON_BEAM = 2
GROUND = "ground"
GROUND_BEARS = 10000


# A place is a pair (bay, level); a spot is a place or GROUND.
# A place is a key of ties, things or ladders only while it is one of frames too.
class Wall:
    def __init__(self, bays, levels, weight, most, free):
        self.bays = bays
        self.levels = levels
        self.weight = weight
        self.most = most
        self.free = free
        self.ground = [GROUND_BEARS] * bays
        self.frames = {}
        self.ties = {}
        self.things = {}
        self.ladders = {}
        self.weights = []
        self.spots = []


def copied(wall):
    other = Wall(wall.bays, wall.levels, wall.weight, wall.most, wall.free)
    other.ground = list(wall.ground)
    other.frames = dict(wall.frames)
    other.ties = dict(wall.ties)
    other.things = dict(wall.things)
    other.ladders = dict(wall.ladders)
    other.weights = list(wall.weights)
    other.spots = list(wall.spots)
    return other


def below(place):
    return (place[0], place[1] - 1)


def above(place):
    return (place[0], place[1] + 1)


# The left place a level below, then the right one.
def beam_ends(place):
    return [(place[0] - 1, place[1] - 1), (place[0] + 1, place[1] - 1)]


def by_levels(places):
    return sorted(places, key=lambda place: (place[1], place[0]))


# The frames that carry the one at this place: none where it stands on the ground.
def carriers(wall, place):
    if wall.frames[place] == ON_BEAM:
        return beam_ends(place)
    if place[1] == 0:
        return []
    return [below(place)]


def carries_some(wall, place):
    return any([place in carriers(wall, other) for other in wall.frames])


# What each frame has of its own, before anything is passed down.
def own_loads(wall):
    loads = {}
    for place in wall.frames:
        loads[place] = wall.weight + wall.things.get(place, 0)
    for spot, weight in zip(wall.spots, wall.weights):
        if spot != GROUND:
            loads[spot] += weight
    return loads


def frame_loads(wall):
    loads = own_loads(wall)
    # From the top down: what a frame bears must be whole before it is halved and passed on.
    for place in reversed(by_levels(wall.frames)):
        load = loads[place]
        under = carriers(wall, place)
        if len(under) == 1:
            loads[under[0]] += load
        if len(under) == 2:
            loads[under[0]] += load - load // 2
            loads[under[1]] += load // 2
    return loads


# What the ground bears in each bay, out of what each frame bears.
def ground_loads(wall, loads):
    return [loads.get((bay, 0), 0) for bay in range(wall.bays)]


def too_much(wall):
    loads = frame_loads(wall)
    if any([load > wall.most for load in loads.values()]):
        return True
    return any([load > limit for load, limit in zip(ground_loads(wall, loads), wall.ground)])


def frame_heights(wall):
    heights = {}
    for place in by_levels(wall.frames):
        if place in wall.ties:
            heights[place] = 0
        else:
            heights[place] = 1 + max([heights[under] for under in carriers(wall, place)], default=0)
    return heights


def too_high(wall):
    heights = frame_heights(wall)
    return any([height > wall.free for height in heights.values()])


# The spots that are one step away.
def next_spots(wall, spot):
    if spot == GROUND:
        return [(bay, 0) for bay in range(wall.bays) if (bay, 0) in wall.ladders]
    sides = [(spot[0] - 1, spot[1]), (spot[0] + 1, spot[1])]
    found = [side for side in sides if side in wall.frames]
    if above(spot) in wall.ladders:
        found.append(above(spot))
    if spot in wall.ladders:
        found.append(GROUND if spot[1] == 0 else below(spot))
    return found


# By how few steps each spot is reached from this one; what isn't reached has no key.
def steps_from(wall, start):
    steps = {start: 0}
    edge = [start]
    while len(edge) > 0:
        found = []
        for spot in edge:
            for other in next_spots(wall, spot):
                if other not in steps:
                    steps[other] = steps[spot] + 1
                    found.append(other)
        edge = found
    return steps


# Steps lead both ways, so whoever is reached from the ground can come down.
def stuck_persons(wall):
    steps = steps_from(wall, GROUND)
    return [person for person, spot in enumerate(wall.spots) if spot not in steps]


def somebody_stuck(wall):
    return len(stuck_persons(wall)) > 0
