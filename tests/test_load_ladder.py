import unittest

from tests.calling import LARGEST, behind

BEGUN = "begin 4 4 10 100 4; put 0 0;"


class Load(unittest.TestCase):
    def test_answers_how_many_things_are_on_the_deck(self):
        self.assertEqual(behind(BEGUN + "put 0 1;", "load 0 0 1; load 0 0 4; load 0 1 2; load 0 0 1"), [1, 5, 2, 6])

    def test_no_frame(self):
        self.assertEqual(behind(BEGUN, f"load 1 0 1; load 0 1 1; load 4 0 1; load {LARGEST} {LARGEST} 1"), [-2, -2, -2, -2])

    def test_the_range_of_how_many(self):
        self.assertEqual(behind(BEGUN, f"load 0 0 0; load 0 0 1; load 0 0 1000; load 0 0 1001; load 0 0 {LARGEST}"),
                         [-22, 1, -41, -22, -22])

    def test_most_just_reached(self):
        self.assertEqual(behind(BEGUN, "load 0 0 91; load 0 0 90; load 0 0 1; unload 0 0 1; load 0 0 1"),
                         [-41, 90, -41, 89, 90])
        self.assertEqual(behind("begin 1 1 1 500 1; put 0 0;", "load 0 0 500; load 0 0 499; load 0 0 1"), [-41, 499, -41])

    def test_too_much_further_below(self):
        start = BEGUN + "put 0 1; put 0 2; load 0 0 20;"
        self.assertEqual(behind(start, "load 0 2 51; load 0 2 50; load 0 1 1; load 0 0 1"), [-41, 50, -41, -41])

    def test_too_much_for_the_ground(self):
        self.assertEqual(behind(BEGUN + "soil 0 12;", "load 0 0 3; load 0 0 2; load 0 0 1"), [-41, 2, -41])

    def test_the_order_of_refusals(self):
        self.assertEqual(behind(BEGUN, "load 1 0 0; load 1 0 1001; load 0 0 1001; load 0 0 1000"), [-2, -2, -22, -41])

    def test_a_refused_load_is_not_there(self):
        self.assertEqual(behind(BEGUN, "load 0 0 1000; unload 0 0 1; load 0 0 1"), [-41, -6, 1])


class Unload(unittest.TestCase):
    FIVE = BEGUN + "load 0 0 5;"

    def test_answers_how_many_are_left(self):
        self.assertEqual(behind(self.FIVE, "unload 0 0 1; unload 0 0 4"), [4, 0])

    def test_no_frame_range_and_too_few(self):
        self.assertEqual(behind(self.FIVE, f"unload 1 0 0; unload 0 {LARGEST} 1; unload 0 0 0; unload 0 0 1001;"
                                f"unload 0 0 {LARGEST}; unload 0 0 1000; unload 0 0 6; unload 0 0 5; unload 0 0 1"),
                         [-2, -2, -22, -22, -22, -6, -6, 0, -6])

    def test_what_is_unloaded_weighs_no_more(self):
        self.assertEqual(behind(BEGUN + "load 0 0 90;", "put 0 1; unload 0 0 9; put 0 1; unload 0 0 1; put 0 1"),
                         [-41, 81, -41, 80, 2])


class Ladder(unittest.TestCase):
    def test_answers_0(self):
        self.assertEqual(behind(BEGUN + "put 0 1;", "ladder 0 0; ladder 0 1"), [0, 0])
        self.assertEqual(behind(BEGUN + "put 0 1;", "ladder 0 1"), [0])

    def test_no_frame_and_one_already(self):
        self.assertEqual(behind(BEGUN, f"ladder 1 0; ladder 0 1; ladder 4 0; ladder {LARGEST} 0; ladder 0 0; ladder 0 0"),
                         [-2, -2, -2, -2, 0, -17])

    def test_no_frame_below_one_on_a_beam(self):
        start = BEGUN + "put 2 0; span 1 1;"
        self.assertEqual(behind(start, "ladder 1 1; put 1 0; ladder 1 1; ladder 1 1"), [-33, 4, 0, -17])

    def test_a_refused_ladder_is_not_there(self):
        start = BEGUN + "put 2 0; span 1 1;"
        self.assertEqual(behind(start, "ladder 1 1; noladder 1 1; put 1 0; noladder 1 1"), [-33, -6, 4, -6])


class NoLadder(unittest.TestCase):
    def test_answers_0_and_it_is_gone(self):
        self.assertEqual(behind(BEGUN + "ladder 0 0;", "noladder 0 0; noladder 0 0; ladder 0 0"), [0, -6, 0])

    def test_no_frame_and_none_up_to_it(self):
        start = BEGUN + "put 0 1; ladder 0 1;"
        self.assertEqual(behind(start, f"noladder 1 0; noladder 4 0; noladder 0 {LARGEST}; noladder 0 0; noladder 0 1"),
                         [-2, -2, -2, -6, 0])

    def test_somebody_could_not_come_down(self):
        start = BEGUN + "put 0 1; ladder 0 0; ladder 0 1; come 5; go 0 0 1;"
        self.assertEqual(behind(start, "noladder 0 1; noladder 0 0; go 0 0 0; noladder 0 0; noladder 0 1; down 0; noladder 0 0"),
                         [-12, -12, 1, -12, 0, 1, 0])

    def test_another_way_down_is_enough(self):
        start = BEGUN + "put 1 0; ladder 0 0; ladder 1 0; come 5; go 0 0 0;"
        self.assertEqual(behind(start, "noladder 0 0; noladder 1 0; down 0"), [0, -12, 2])

    def test_any_person_up_counts(self):
        start = BEGUN + "put 1 0; ladder 0 0; come 5; come 6; come 7; go 1 1 0;"
        self.assertEqual(behind(start, "noladder 0 0; down 1; noladder 0 0"), [-12, 2, 0])

    def test_a_refused_noladder_leaves_the_ladder(self):
        start = BEGUN + "ladder 0 0; come 5; go 0 0 0;"
        self.assertEqual(behind(start, "noladder 0 0; ladder 0 0; down 0"), [-12, -17, 1])


if __name__ == "__main__":
    unittest.main()
