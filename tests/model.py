"""The document's words once more, as slowly and plainly as they can be put, to hold the program against.

Nothing here is shared with the program: what a frame bears is asked of what lies on it,
and ways are found by trying every step again until nothing gets nearer.
"""

from copy import deepcopy

FAR = 10 ** 6
CHANGES = "begin soil put span take tie untie load unload ladder noladder come go down".split()
TELLS = "bears feet room high way strip loose reached cut most look where sums state".split()


class Model:
    def __init__(self):
        self.state = None

    def answer(self, call):
        """All the numbers that the call answers."""
        if call[0] != 0 and self.state is None:
            return [-11]
        if call[0] < len(CHANGES):
            return [self.tried(CHANGES[call[0]], call[1:])]
        return getattr(self, "tell_" + TELLS[call[0] - len(CHANGES)])(*call[1:])

    def tried(self, name, numbers, keep=True):
        """What a call answers that changes something; if it's refused, or isn't to be kept, all is as before."""
        before = deepcopy(self.state)
        told = getattr(self, name)(*numbers)
        if told < 0 or not keep:
            self.state = before
        return told

    def frame(self, b, l):
        return self.state["frames"].get((b, l))

    def burden(self, b, l):
        frame = self.frame(b, l)
        total = self.state["weight"] + frame["things"]
        total += sum(p["weight"] for p in self.state["persons"] if p["at"] == (b, l))
        upper = self.frame(b, l + 1)
        if upper and upper["kind"] == "stands":
            total += self.burden(b, l + 1)
        right = self.frame(b + 1, l + 1)
        if right and right["kind"] == "beam":
            total += (self.burden(b + 1, l + 1) + 1) // 2
        left = self.frame(b - 1, l + 1)
        if left and left["kind"] == "beam":
            total += self.burden(b - 1, l + 1) // 2
        return total

    def too_much(self):
        for (b, l) in self.state["frames"]:
            load = self.burden(b, l)
            if load > self.state["most"] or (l == 0 and load > self.state["ground"][b]):
                return True
        return False

    def height(self, b, l):
        frame = self.frame(b, l)
        if frame["tied"]:
            return 0
        if l == 0:
            return 1
        if frame["kind"] == "stands":
            return self.height(b, l - 1) + 1
        return max(self.height(b - 1, l - 1), self.height(b + 1, l - 1)) + 1

    def too_high(self):
        return any(self.height(b, l) > self.state["free"] for (b, l) in self.state["frames"])

    def steps(self):
        pairs = []
        for (b, l), frame in self.state["frames"].items():
            if self.frame(b + 1, l):
                pairs.append(((b, l), (b + 1, l)))
            if frame["ladder"]:
                pairs.append(((b, l), "ground" if l == 0 else (b, l - 1)))
        return pairs + [(end, start) for start, end in pairs]

    def few(self, start, goal):
        near = {start: 0}
        while True:
            nearer = dict(near)
            for one, other in self.steps():
                if near.get(one, FAR) + 1 < nearer.get(other, FAR):
                    nearer[other] = near[one] + 1
            if nearer == near:
                return near.get(goal)
            near = nearer

    def stuck(self):
        return [number for number, p in enumerate(self.state["persons"]) if self.few(p["at"], "ground") is None]

    def begin(self, bays, levels, weight, most, free):
        if not (1 <= bays <= 8 and 1 <= levels <= 6 and 1 <= weight <= 100 and 1 <= most <= 500 and 1 <= free <= 4):
            return -22
        self.state = {"bays": bays, "levels": levels, "weight": weight, "most": most, "free": free,
                      "ground": [10000] * bays, "frames": {}, "persons": []}
        return 0

    def soil(self, b, n):
        if b >= self.state["bays"] or n > 10000:
            return -22
        bore = self.state["ground"][b]
        self.state["ground"][b] = n
        return -41 if self.too_much() else bore

    def build(self, b, l, kind):
        self.state["frames"][(b, l)] = {"kind": kind, "tied": False, "things": 0, "ladder": False}
        if self.too_high():
            return -40
        return -41 if self.too_much() else len(self.state["frames"])

    def put(self, b, l):
        if b >= self.state["bays"] or l >= self.state["levels"]:
            return -22
        if self.frame(b, l):
            return -17
        if l > 0 and not self.frame(b, l - 1):
            return -33
        return self.build(b, l, "stands")

    def span(self, b, l):
        if b >= self.state["bays"] or l >= self.state["levels"] or l == 0:
            return -22
        if self.frame(b, l):
            return -17
        if self.frame(b, l - 1) or not (self.frame(b - 1, l - 1) and self.frame(b + 1, l - 1)):
            return -33
        return self.build(b, l, "beam")

    def take(self, b, l):
        frame = self.frame(b, l)
        if not frame:
            return -2
        upper = self.frame(b, l + 1)
        beams = [self.frame(b - 1, l + 1), self.frame(b + 1, l + 1)]
        if (upper and upper["kind"] == "stands") or any(other and other["kind"] == "beam" for other in beams):
            return -16
        if frame["things"] or any(p["at"] == (b, l) for p in self.state["persons"]):
            return -15
        if frame["tied"]:
            return -14
        if frame["ladder"] or (upper and upper["ladder"]):
            return -13
        del self.state["frames"][(b, l)]
        return -12 if self.stuck() else len(self.state["frames"])

    def tied(self):
        return sum(frame["tied"] for frame in self.state["frames"].values())

    def tie(self, b, l):
        frame = self.frame(b, l)
        if not frame:
            return -2
        if frame["tied"]:
            return -17
        frame["tied"] = True
        return self.tied()

    def untie(self, b, l):
        frame = self.frame(b, l)
        if not frame:
            return -2
        if not frame["tied"]:
            return -6
        frame["tied"] = False
        return -40 if self.too_high() else self.tied()

    def load(self, b, l, n):
        frame = self.frame(b, l)
        if not frame:
            return -2
        if n < 1 or n > 1000:
            return -22
        frame["things"] += n
        return -41 if self.too_much() else frame["things"]

    def unload(self, b, l, n):
        frame = self.frame(b, l)
        if not frame:
            return -2
        if n < 1 or n > 1000:
            return -22
        if frame["things"] < n:
            return -6
        frame["things"] -= n
        return frame["things"]

    def ladder(self, b, l):
        frame = self.frame(b, l)
        if not frame:
            return -2
        if frame["ladder"]:
            return -17
        if l > 0 and not self.frame(b, l - 1):
            return -33
        frame["ladder"] = True
        return 0

    def noladder(self, b, l):
        frame = self.frame(b, l)
        if not frame:
            return -2
        if not frame["ladder"]:
            return -6
        frame["ladder"] = False
        return -12 if self.stuck() else 0

    def come(self, w):
        if len(self.state["persons"]) >= 8:
            return -28
        if w < 1 or w > 200:
            return -22
        self.state["persons"].append({"weight": w, "at": "ground"})
        return len(self.state["persons"]) - 1

    def go(self, p, b, l):
        if p >= len(self.state["persons"]) or not self.frame(b, l):
            return -2
        person = self.state["persons"][p]
        if person["at"] == (b, l):
            return -17
        few = self.few(person["at"], (b, l))
        if few is None:
            return -33
        person["at"] = (b, l)
        return -41 if self.too_much() else few

    def down(self, p):
        if p >= len(self.state["persons"]):
            return -2
        person = self.state["persons"][p]
        if person["at"] == "ground":
            return -17
        few = self.few(person["at"], "ground")
        person["at"] = "ground"
        return few

    def places(self):
        """All places of the wall with a frame, in the order in which they are told."""
        return [(b, l) for l in range(6) for b in range(8) if self.frame(b, l)]

    def told_places(self, wanted):
        found = [place for place in self.places() if wanted(*place)]
        return [len(found)] + [number for place in found for number in place]

    def tell_bears(self, b, l):
        if not self.frame(b, l):
            return [-2]
        return [self.burden(b, l), self.state["most"] - self.burden(b, l)]

    def tell_feet(self):
        each = [self.burden(b, 0) if self.frame(b, 0) else 0 for b in range(self.state["bays"])]
        return [sum(each)] + each

    def tell_room(self, b, l):
        frame = self.frame(b, l)
        if not frame:
            return [-2]
        things = frame["things"]
        while not self.too_much():
            frame["things"] += 1
        found = frame["things"] - things - 1
        frame["things"] = things
        return [found]

    def tell_high(self, b, l):
        return [self.height(b, l)] if self.frame(b, l) else [-2]

    def tell_way(self, p, b, l):
        if p >= len(self.state["persons"]) or not self.frame(b, l):
            return [-2]
        few = self.few(self.state["persons"][p]["at"], (b, l))
        return [-33] if few is None else [few]

    def tell_strip(self):
        return self.told_places(lambda b, l: self.tried("take", (b, l), keep=False) >= 0)

    def tell_loose(self):
        return self.told_places(lambda b, l: self.tried("untie", (b, l), keep=False) >= 0)

    def tell_reached(self):
        return self.told_places(lambda b, l: self.few("ground", (b, l)) is not None)

    def tell_cut(self, b, l):
        frame = self.frame(b, l)
        if not frame:
            return [-2]
        if not frame["ladder"]:
            return [-6]
        frame["ladder"] = False
        stuck = self.stuck()
        frame["ladder"] = True
        return [len(stuck)] + stuck

    def tell_most(self):
        told = [-6]
        for b, l in self.places():
            if self.burden(b, l) > told[0]:
                told = [self.burden(b, l), b, l]
        return told

    def tell_look(self, b, l):
        frame = self.frame(b, l)
        if not frame:
            return [-2]
        weights = [p["weight"] for p in self.state["persons"] if p["at"] == (b, l)]
        return [{"stands": 1, "beam": 2}[frame["kind"]], int(frame["tied"]), frame["things"], sum(weights),
                int(frame["ladder"])]

    def tell_where(self, p):
        if p >= len(self.state["persons"]):
            return [-2]
        person = self.state["persons"][p]
        if person["at"] == "ground":
            return [0, person["weight"], 0, 0]
        return [1, person["weight"], *person["at"]]

    def tell_sums(self):
        frames = self.state["frames"].values()
        up = [p["weight"] for p in self.state["persons"] if p["at"] != "ground"]
        things = sum(frame["things"] for frame in frames)
        ladders = sum(frame["ladder"] for frame in frames)
        weight = self.state["weight"] * len(frames) + things + sum(up)
        return [len(frames), self.tied(), ladders, things, len(up), weight]

    def tell_state(self):
        told = [self.state[name] for name in ("bays", "levels", "weight", "most", "free")]
        return told + [len(self.state["persons"])]
