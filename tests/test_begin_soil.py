import unittest

from tests.calling import LARGEST, behind, last

BEGUN = "begin 3 3 10 100 4;"


class Begin(unittest.TestCase):
    def test_smallest_and_largest_are_taken(self):
        self.assertEqual(last("begin 1 1 1 1 1"), 0)
        self.assertEqual(last("begin 8 6 100 500 4"), 0)

    def test_each_number_is_held_to_its_range(self):
        middle = [3, 3, 10, 100, 2]
        for index, limit in enumerate((8, 6, 100, 500, 4)):
            for wrong in (0, limit + 1, LARGEST):
                numbers = list(middle)
                numbers[index] = wrong
                call = "begin " + " ".join(str(number) for number in numbers)
                self.assertEqual(last(call), -22, call)
            for right in (1, limit):
                numbers = list(middle)
                numbers[index] = right
                call = "begin " + " ".join(str(number) for number in numbers)
                self.assertEqual(last(call), 0, call)

    def test_the_last_bay_and_level_are_there_and_no_further_ones(self):
        self.assertEqual(behind("begin 8 1 1 1 1;", "put 7 0; put 8 0; put 0 1"), [1, -22, -22])
        self.assertEqual(behind("begin 1 6 1 500 4;", "put 0 0; tie 0 0; put 0 1; put 0 2; put 0 3; put 0 4;"
                                "tie 0 4; put 0 5; put 0 6; put 1 0"), [1, 1, 2, 3, 4, 5, 2, 6, -22, -22])

    def test_begins_anew_behind_another(self):
        start = BEGUN + "put 0 0; tie 0 0; load 0 0 5; ladder 0 0; come 50; go 0 0 0; soil 1 77;"
        told = behind(start, "begin 3 3 10 100 4; take 0 0; down 0; come 9; soil 1 5; put 0 0; untie 0 0;"
                      "unload 0 0 1; noladder 0 0; tie 0 0; take 0 0")
        self.assertEqual(told, [0, -2, -2, 0, 10000, 1, -6, -6, -6, 1, -14])

    def test_a_refused_begin_leaves_all_as_it_was(self):
        start = BEGUN + "put 0 0; tie 0 0; load 0 0 5; ladder 0 0; come 50; go 0 0 0; soil 1 77;"
        told = behind(start, "begin 9 3 10 100 4; soil 1 1; put 1 0; load 0 0 36; load 0 0 35; down 0; come 1; put 3 0")
        self.assertEqual(told, [-22, 77, -41, -41, 40, 1, 1, -22])

    def test_a_second_begin_sets_its_own_sizes(self):
        start = "begin 8 6 1 500 4; begin 2 2 60 100 1;"
        self.assertEqual(behind(start, "put 2 0; put 0 2; put 0 0; put 0 1; tie 0 0; put 0 1; load 0 0 41; load 0 0 40"),
                         [-22, -22, 1, -40, 1, -41, -41, 40])


class Soil(unittest.TestCase):
    def test_answers_what_the_ground_bore(self):
        self.assertEqual(behind(BEGUN, "soil 0 9999; soil 0 0; soil 0 10000; soil 0 3"), [10000, 9999, 0, 10000])

    def test_each_bay_has_its_own(self):
        self.assertEqual(behind(BEGUN, "soil 0 1; soil 1 2; soil 2 3; soil 0 4; soil 1 4; soil 2 4"),
                         [10000, 10000, 10000, 1, 2, 3])

    def test_bay_and_amount_are_held_to_their_ranges(self):
        self.assertEqual(behind(BEGUN, f"soil 3 5; soil {LARGEST} 5; soil 2 10001; soil 2 {LARGEST}; soil 2 10000"),
                         [-22, -22, -22, -22, 10000])

    def test_weaker_than_what_it_bears_is_too_much(self):
        start = BEGUN + "put 0 0; load 0 0 7; put 0 1;"
        self.assertEqual(behind(start, "soil 0 26; soil 0 27; soil 0 26; soil 0 27"), [-41, 10000, -41, 27])

    def test_range_is_told_before_too_much(self):
        self.assertEqual(behind(BEGUN + "put 0 0;", "soil 0 0; soil 0 10001; soil 3 0"), [-41, -22, -22])

    def test_weak_ground_refuses_a_frame_a_load_and_a_person(self):
        start = BEGUN + "soil 0 30; put 0 0; ladder 0 0; come 21; come 20;"
        self.assertEqual(behind(start, "load 0 0 21; go 0 0 0; go 1 0 0; load 0 0 1; put 0 1"), [-41, -41, 1, -41, -41])
        self.assertEqual(behind(BEGUN, "soil 1 9; put 1 0; soil 1 10; put 1 0"), [10000, -41, 9, 1])

    def test_weak_ground_elsewhere_does_not_matter(self):
        self.assertEqual(behind(BEGUN, "soil 0 0; put 1 0; load 1 0 90"), [10000, 1, 90])


if __name__ == "__main__":
    unittest.main()
