import unittest

from tests.calling import CALLS, LARGEST, first_answers, flat, read, whole_answers
from tests.lines import LINES
from wallscaffold.scaffold import answers

LINE = "put 0 0; begin 3 3 10 100 2; put 0 0; put 2 0; span 1 1; load 1 1 5; ladder 0 0; come 30; go 0 0 0; put 9 9;" \
       "soil 0 20; soil 0 10000; down 0; tie 0 0; untie 0 0; unload 1 1 5; take 1 1; noladder 0 0; begin 0 1 1 1 1"
TOLD = [-11, 0, 1, 2, 3, 5, 0, 0, 1, -22, -41, 10000, 1, 1, 0, 0, 2, 0, -22]
ALL_TOLD = "begin 3 3 10 100 2; put 0 0; put 2 0; span 1 1; load 1 1 5; ladder 0 0; come 30; go 0 0 0; tie 2 0;" \
           "bears 0 0; feet; room 1 1; high 1 1; way 0 0 0; strip; loose; reached; cut 0 0; most; look 1 1; where 0; sums; state"


class Interface(unittest.TestCase):
    def test_each_answer_has_its_count_before_it(self):
        self.assertEqual(answers([0, 3, 3, 10, 100, 2]), [1, 0])
        self.assertEqual(answers([2, 0, 0]), [1, -11])
        self.assertEqual(answers(flat(read(LINE))), [number for told in TOLD for number in (1, told)])

    def test_the_numbers_of_the_calls(self):
        calls = [0, 2, 2, 10, 100, 2, 2, 0, 0, 2, 0, 1, 3, 1, 1, 4, 0, 1, 5, 0, 0, 6, 0, 0, 7, 0, 0, 9, 8, 0, 0, 4, 9, 0, 0,
                 11, 7, 12, 0, 0, 0, 13, 0, 10, 0, 0, 1, 1, 6]
        self.assertEqual(answers(calls), [1, 0, 1, 1, 1, 2, 1, -33, 1, 1, 1, 1, 1, 0, 1, 9, 1, 5, 1, 0,
                                          1, 0, 1, 1, 1, 1, 1, 0, 1, 10000])

    def test_the_numbers_of_the_calls_that_tell(self):
        calls = [0, 2, 2, 10, 100, 2, 2, 1, 0, 2, 1, 1, 9, 1, 0, 5, 1, 0, 11, 7, 12, 0, 1, 0, 7, 1, 1, 3,
                 14, 1, 0, 15, 16, 1, 1, 17, 1, 1, 18, 0, 1, 0, 19, 20, 21, 22, 1, 0, 23, 24, 1, 0, 25, 0, 26, 27]
        told = [1, 0, 1, 1, 1, 2, 1, 0, 1, 1, 1, 0, 1, 1, 1, 3,
                2, 30, 70, 3, 30, 0, 30, 1, 70, 1, 1, 1, 0, 1, 0, 3, 1, 1, 0, 3, 1, 1, 0, 2, 1, 0, 3, 30, 1, 0,
                5, 1, 1, 0, 7, 1, 4, 1, 7, 1, 0, 6, 2, 1, 1, 3, 1, 30, 6, 2, 2, 10, 100, 2, 1]
        self.assertEqual(answers(calls), told)

    def test_how_many_numbers_are_answered_by_those_that_tell(self):
        self.assertEqual(whole_answers(read(ALL_TOLD))[9:],
                         [[48, 52], [65, 48, 0, 17], [85], [2], [0], [0], [1, 2, 0], [1, 0, 0], [1, 0], [48, 0, 0],
                          [2, 0, 5, 0, 0], [1, 30, 0, 0], [3, 1, 1, 5, 1, 65], [3, 3, 10, 100, 2, 1]])

    def test_whole_numbers_in_a_list(self):
        for line in [read(LINE), read(ALL_TOLD)] + LINES[:20]:
            told = answers(flat(line))
            self.assertIs(type(told), list)
            for number in told:
                self.assertIs(type(number), int)

    def test_what_is_handed_in_is_not_changed(self):
        for line in [read(LINE), read(ALL_TOLD)] + LINES[:20]:
            calls = flat(line)
            kept = list(calls)
            answers(calls)
            self.assertEqual(calls, kept)

    def test_what_is_handed_in_is_not_changed_for_a_while(self):
        class Watched(list):
            def refuse(self, *given):
                raise AssertionError("the list that was handed in was changed")

            __setitem__ = __delitem__ = __iadd__ = __imul__ = refuse
            append = clear = extend = insert = pop = remove = reverse = sort = refuse

        for line in [read(LINE), read(ALL_TOLD)] + LINES[:20]:
            calls = flat(line)
            self.assertEqual(answers(Watched(calls)), answers(calls))

    def test_nothing_is_kept_from_one_time_to_the_next(self):
        calls = flat(read(LINE))
        first = answers(calls)
        self.assertEqual(answers([2, 0, 0, 11, 5]), [1, -11, 1, -11])
        self.assertEqual(answers(calls), first)

    def test_a_second_run_answers_the_same(self):
        first = [answers(flat(line)) for line in LINES]
        self.assertEqual(answers([26, 27, 19]), [1, -11] * 3)
        self.assertEqual([answers(flat(line)) for line in reversed(LINES)], first[::-1])

    def test_what_was_given_back_is_the_caller_s(self):
        calls = flat(read(LINE))
        first = answers(calls)
        kept = list(first)
        first.clear()
        self.assertEqual(answers(calls), kept)

    def test_400_calls(self):
        calls = [[0, 8, 6, 1, 500, 4]] + [[2, 0, 0], [7, 0, 0, 499], [8, 0, 0, 499], [4, 0, 0]] * 99 + [[11, 1]] * 3
        self.assertEqual(len(calls), 400)
        self.assertEqual(first_answers(calls), [0] + [1, 499, 0, 0] * 99 + [0, 1, 2])

    def test_400_calls_that_tell(self):
        line = read(ALL_TOLD)
        tells = line[9:]
        calls = line + tells * 26 + [[27]] * 13
        self.assertEqual(len(calls), 400)
        once = whole_answers(line)
        self.assertEqual(whole_answers(calls), once + once[9:] * 26 + [once[-1]] * 13)


class NotBegun(unittest.TestCase):
    def others(self, argument):
        return [[number] + [argument] * count for number, (name, count) in enumerate(CALLS) if name != "begin"]

    def test_all_others_answer_not_begun(self):
        for argument in (0, 1, LARGEST):
            calls = self.others(argument)
            self.assertEqual(answers(flat(calls)), [1, -11] * 27)
            for call in calls:
                self.assertEqual(answers(call), [1, -11])
                self.assertEqual(answers(call + [0, 1, 1, 1, 1, 1]), [1, -11, 1, 0])

    def test_also_behind_a_begin_that_was_refused(self):
        for refused in ([0, 0, 1, 1, 1, 1], [0, 8, 6, 100, 500, 5], [0] + [LARGEST] * 5):
            self.assertEqual(answers(refused + flat(self.others(0))), [1, -22] + [1, -11] * 27)

    def test_refused_calls_before_begin_leave_nothing_behind(self):
        calls = flat(read("put 0 0; come 5; soil 0 5")) + flat(read(LINE))
        self.assertEqual(first_answers(read("put 0 0; come 5; soil 0 5;" + LINE)), [-11, -11, -11] + TOLD)
        self.assertEqual(len(answers(calls)), 2 * (len(TOLD) + 3))

    def test_a_begin_that_is_refused_later_does_not_end_what_was_begun(self):
        self.assertEqual(first_answers(read("begin 2 1 5 50 1; put 0 0; begin 0 0 0 0 0; put 1 0; load 0 0 46; load 0 0 45")),
                         [0, 1, -22, 2, -41, 45])


if __name__ == "__main__":
    unittest.main()
