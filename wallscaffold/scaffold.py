"""The interface: a list of calls on one scaffold in, the list of their answers out."""

from wallscaffold.calls import OUT_OF_RANGE, change
from wallscaffold.tells import tell
from wallscaffold.wall import Wall, copied

NOT_BEGUN = -11
BEGIN = 0
LAST_CHANGE = 13
BEGIN_LIMITS = (8, 6, 100, 500, 4)

# How many numbers follow a call's own, by that one.
ARGUMENT_COUNTS = (5, 2, 2, 2, 2, 2, 2, 3, 3, 2, 2, 1, 3, 1, 2, 0, 2, 2, 3, 0, 0, 0, 2, 0, 2, 1, 0, 0)


class Scaffold:
    def __init__(self):
        self.wall = None

    def answer(self, number, numbers):
        if number == BEGIN:
            return [self.begin(numbers)]
        if self.wall is None:
            return [NOT_BEGUN]
        if number <= LAST_CHANGE:
            return [self.try_change(number, numbers)]
        return tell(self.wall, number, numbers)

    # What is refused changes nothing: the call is tried on a copy.
    def try_change(self, number, numbers):
        trial = copied(self.wall)
        result = change(trial, number, numbers)
        if result >= 0:
            self.wall = trial
        return result

    def begin(self, numbers):
        if not all([1 <= given <= limit for given, limit in zip(numbers, BEGIN_LIMITS)]):
            return OUT_OF_RANGE
        self.wall = Wall(numbers[0], numbers[1], numbers[2], numbers[3], numbers[4])
        return 0


def answers(calls):
    scaffold = Scaffold()
    told = []
    at = 0
    while at < len(calls):
        number = calls[at]
        end = at + 1 + ARGUMENT_COUNTS[number]
        result = scaffold.answer(number, calls[at + 1:end])
        told.append(len(result))
        told.extend(result)
        at = end
    return told
