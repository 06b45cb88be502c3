"""Many made-up lines, held against the model."""

import unittest

from tests.calling import CALLS, first_answers, whole_answers
from tests.lines import LINES, made_line
from tests.model import Model


class AgainstTheModel(unittest.TestCase):
    def held(self, name, calls):
        model = Model()
        for index, (call, numbers) in enumerate(zip(calls, whole_answers(calls))):
            self.assertEqual(numbers, model.answer(call), (name, index, CALLS[call[0]][0], call[1:]))

    def test_each_answer_is_the_model_s(self):
        for seed, calls in enumerate(LINES):
            self.held(seed, calls)

    def test_lines_of_400_calls(self):
        for seed in range(1000, 1005):
            self.held(seed, made_line(seed, 400))

    def test_the_lines_show_each_refusal_and_each_call_done(self):
        seen = set()
        for calls in LINES:
            for call, first in zip(calls, first_answers(calls)):
                seen.add((CALLS[call[0]][0], min(first, 0)))
        due = {"begin": (-22,), "soil": (-22, -41), "put": (-22, -17, -33, -40, -41), "span": (-22, -17, -33, -40, -41),
               "take": (-2, -16, -15, -14, -13, -12), "tie": (-2, -17), "untie": (-2, -6, -40), "load": (-2, -22, -41),
               "unload": (-2, -22, -6), "ladder": (-2, -17, -33), "noladder": (-2, -6, -12), "come": (-28, -22),
               "go": (-2, -17, -33, -41), "down": (-2, -17), "bears": (-2,), "feet": (), "room": (-2,), "high": (-2,),
               "way": (-2, -33), "strip": (), "loose": (), "reached": (), "cut": (-2, -6), "most": (-6,), "look": (-2,),
               "where": (-2,), "sums": (), "state": ()}
        wanted = {(name, first) for name, refusals in due.items() for first in (0, *refusals)}
        wanted |= {(name, -11) for name in due if name != "begin"}
        self.assertEqual(seen, wanted)


if __name__ == "__main__":
    unittest.main()
