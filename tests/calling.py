"""Calls by their names, so that the tests read as the document does."""

from wallscaffold.scaffold import answers

# A call's number is its place here; beside its name, how many numbers it takes.
CALLS = (
    ("begin", 5), ("soil", 2), ("put", 2), ("span", 2), ("take", 2), ("tie", 2), ("untie", 2),
    ("load", 3), ("unload", 3), ("ladder", 2), ("noladder", 2), ("come", 1), ("go", 3), ("down", 1),
    ("bears", 2), ("feet", 0), ("room", 2), ("high", 2), ("way", 3), ("strip", 0), ("loose", 0),
    ("reached", 0), ("cut", 2), ("most", 0), ("look", 2), ("where", 1), ("sums", 0), ("state", 0),
)
NUMBER_OF = {name: number for number, (name, count) in enumerate(CALLS)}
COUNT_OF = dict(CALLS)
LARGEST = 4294967295


def read(text):
    """'put 0 0; tie 0 0' as a list of calls, each a list of its number and its arguments."""
    calls = []
    for part in text.split(";"):
        words = part.split()
        if not words:
            continue
        numbers = [int(word) for word in words[1:]]
        if len(numbers) != COUNT_OF[words[0]]:
            raise ValueError(f"wrong count of numbers: {part}")
        calls.append([NUMBER_OF[words[0]]] + numbers)
    return calls


def flat(calls):
    return [number for call in calls for number in call]


def split_answers(told):
    """The flat list of answers as one list for each call."""
    parts = []
    at = 0
    while at < len(told):
        end = at + 1 + told[at]
        parts.append(told[at + 1:end])
        at = end
    return parts


def whole_answers(calls):
    return split_answers(answers(flat(calls)))


def first_answers(calls):
    return [part[0] for part in whole_answers(calls)]


def last(text):
    """What the last call of a line answers."""
    return first_answers(read(text))[-1]


def behind(start, text):
    """What the calls of text answer when they are made behind those of start."""
    before = read(start)
    return first_answers(before + read(text))[len(before):]


def whole(start, text):
    """As behind, but all the numbers that each call answers."""
    before = read(start)
    return whole_answers(before + read(text))[len(before):]


def column(bay, levels):
    """The calls that put up a bay from the ground."""
    return "".join(f"put {bay} {level};" for level in range(levels))
