"""Many made-up lines: held against the model, and against what the document says always holds."""

import random
import unittest

from tests.calling import CALLS, LARGEST, first_answers
from tests.model import Model

# How often each call from begin to down is made.
OFTEN = (0, 3, 24, 14, 8, 8, 5, 10, 5, 14, 4, 4, 16, 4)


def made_number(dice, usual):
    """Mostly a usual one; now and then one just past it, or a very large one."""
    chance = dice.randrange(60)
    if chance == 0:
        return LARGEST
    if chance == 1:
        return usual
    return dice.randrange(usual)


def made_begin(dice):
    if dice.randrange(10) == 0:
        return [0] + [dice.choice((0, 1, 4, 5, 6, 7, 8, 9, 100, 101, 500, 501)) for index in range(5)]
    weight = dice.choice((1, 3, 10, 11))
    return [0, dice.randrange(1, 9), dice.randrange(1, 7), weight, dice.choice((weight, 40, 75, 101, 200, 500)),
            dice.randrange(1, 5)]


def made_call(dice, bays, levels):
    number = dice.choices(range(14), weights=OFTEN)[0]
    bay = made_number(dice, bays)
    # Two rolls, since there is more to do near the ground.
    level = min(made_number(dice, levels), made_number(dice, levels))
    if number == 1:
        return [1, bay, dice.choice((0, 9, 20, 33, 50, 80, 150, 10000, 10001))]
    if number in (7, 8):
        return [number, bay, level, dice.choice((0, 1, 1, 2, 3, 5, 7, 20, 33, 400, 1000, 1001))]
    if number == 11:
        return [11, dice.choice((0, 1, 5, 9, 14, 30, 61, 200, 201))]
    if number == 12:
        return [12, made_number(dice, 4), bay, level]
    if number == 13:
        return [13, made_number(dice, 4)]
    return [number, bay, level]


def made_line(seed):
    dice = random.Random(seed)
    calls = [made_begin(dice)]
    while len(calls) < 150:
        if dice.randrange(200) == 0:
            calls.append(made_begin(dice))
        calls.append(made_call(dice, min(max(calls[0][1], 1), 8), min(max(calls[0][2], 1), 6)))
    return calls


LINES = [made_line(seed) for seed in range(120)]


class AgainstTheModel(unittest.TestCase):
    def test_each_answer_is_the_model_s(self):
        for seed, calls in enumerate(LINES):
            model = Model()
            told = first_answers(calls)
            for index, call in enumerate(calls):
                self.assertEqual(told[index], model.answer(call), (seed, index, CALLS[call[0]][0], call[1:]))

    def test_the_lines_show_each_refusal_and_each_call_done(self):
        seen = set()
        for calls in LINES:
            for call, told in zip(calls, first_answers(calls)):
                seen.add((CALLS[call[0]][0], min(told, 0)))
        due = {"begin": (-22,), "soil": (-22, -41), "put": (-22, -17, -33, -40, -41), "span": (-22, -17, -33, -40, -41),
               "take": (-2, -16, -15, -14, -13, -12), "tie": (-2, -17), "untie": (-2, -6, -40), "load": (-2, -22, -41),
               "unload": (-2, -22, -6), "ladder": (-2, -17, -33), "noladder": (-2, -6, -12), "come": (-28, -22),
               "go": (-2, -17, -33, -41), "down": (-2, -17)}
        for name, refusals in due.items():
            told = (0, -11) if name != "begin" else (0,)
            for answer in told + refusals:
                self.assertIn((name, answer), seen)


class WhatHolds(unittest.TestCase):
    def test_what_is_refused_changes_nothing(self):
        for calls in LINES:
            told = first_answers(calls)
            kept = [index for index, answer in enumerate(told) if answer >= 0]
            if kept:
                self.assertEqual(first_answers([calls[index] for index in kept]), [told[index] for index in kept])

    def test_put_up_and_taken_away_all_is_as_it_was(self):
        for calls in LINES:
            told = first_answers(calls)
            for index in [index for index, call in enumerate(calls) if call[0] in (2, 3) and told[index] > 0][:12]:
                take = [4] + calls[index][1:]
                longer = first_answers(calls[:index + 1] + [take] + calls[index:])
                self.assertEqual(longer[index + 1], told[index] - 1)
                self.assertEqual(longer[index + 2:], told[index:])

    def test_steps_lead_back(self):
        for calls in LINES:
            told = first_answers(calls)
            for index in [index for index, call in enumerate(calls) if call[0] == 13 and told[index] >= 0]:
                person = calls[index][1]
                places = [(b, l) for b in range(8) for l in range(6)]
                for b, l in places:
                    longer = first_answers(calls[:index] + [[12, person, b, l], [13, person], [12, person, b, l]])
                    if longer[index] >= 0:
                        self.assertEqual(longer[index + 1], longer[index + 2])


if __name__ == "__main__":
    unittest.main()
