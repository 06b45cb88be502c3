import unittest

from tests.calling import LARGEST, behind

BEGUN = "begin 4 4 10 100 4;"


class Take(unittest.TestCase):
    def test_answers_how_many_are_left(self):
        self.assertEqual(behind(BEGUN + "put 0 0; put 0 1; put 1 0;", "take 0 1; take 1 0; take 0 0; put 0 0"), [2, 1, 0, 1])

    def test_there_is_no_frame(self):
        self.assertEqual(behind(BEGUN + "put 0 0;", f"take 1 0; take 0 1; take 4 0; take 0 4; take {LARGEST} {LARGEST};"
                                "take 0 0; take 0 0"), [-2, -2, -2, -2, -2, 0, -2])

    def test_one_stands_on_it(self):
        self.assertEqual(behind(BEGUN + "put 0 0; put 0 1; put 0 2;", "take 0 0; take 0 1; take 0 2; take 0 1"),
                         [-16, -16, 2, 1])

    def test_it_carries_a_beam_at_either_end(self):
        start = BEGUN + "put 0 0; put 2 0; span 1 1;"
        self.assertEqual(behind(start, "take 0 0; take 2 0; take 1 1; take 0 0; take 2 0"), [-16, -16, 2, 1, 0])

    def test_things_are_on_it(self):
        self.assertEqual(behind(BEGUN + "put 0 0; load 0 0 2;", "take 0 0; unload 0 0 1; take 0 0; unload 0 0 1; take 0 0"),
                         [-15, 1, -15, 0, 0])

    def test_a_person_is_on_it(self):
        start = BEGUN + "put 0 0; put 1 0; ladder 0 0; come 5; go 0 1 0;"
        self.assertEqual(behind(start, "take 1 0; down 0; take 1 0"), [-15, 2, 1])

    def test_it_is_tied(self):
        self.assertEqual(behind(BEGUN + "put 0 0; tie 0 0;", "take 0 0; untie 0 0; take 0 0"), [-14, 0, 0])

    def test_a_ladder_leads_to_it(self):
        self.assertEqual(behind(BEGUN + "put 0 0; ladder 0 0;", "take 0 0; noladder 0 0; take 0 0"), [-13, 0, 0])
        self.assertEqual(behind(BEGUN + "put 0 0; put 0 1; ladder 0 1;", "take 0 1; noladder 0 1; take 0 1"), [-13, 0, 1])

    def test_a_ladder_leads_from_it_up_to_a_frame_on_a_beam(self):
        start = BEGUN + "put 0 0; put 2 0; span 1 1; put 1 0; ladder 1 1;"
        self.assertEqual(behind(start, "take 1 0; noladder 1 1; take 1 0"), [-13, 0, 3])

    def test_somebody_could_not_come_down(self):
        start = BEGUN + "put 0 0; put 1 0; put 2 0; ladder 0 0; come 5; go 0 2 0;"
        self.assertEqual(behind(start, "take 1 0; go 0 0 0; take 1 0"), [-12, 2, 2])

    def test_another_way_down_is_enough(self):
        start = BEGUN + "put 0 0; put 1 0; put 2 0; ladder 0 0; come 5; go 0 2 0;"
        self.assertEqual(behind(start, "ladder 2 0; take 1 0; down 0"), [0, 2, 1])

    def test_the_order_of_refusals(self):
        start = BEGUN + "put 0 0; put 1 0; put 2 0; put 1 1; ladder 0 0; ladder 1 0; load 1 0 1; tie 1 0; come 5;" \
                        "go 0 2 0; noladder 0 0;"
        self.assertEqual(behind(start, "take 1 0; take 1 1; take 1 0; unload 1 0 1; take 1 0; untie 1 0; take 1 0;"
                                "noladder 1 0; ladder 0 0; noladder 1 0; take 1 0; down 0; take 1 0"),
                         [-16, 3, -15, 0, -14, 0, -13, -12, 0, 0, -12, 3, 2])

    def test_a_refused_take_leaves_the_frame(self):
        start = BEGUN + "put 0 0; put 1 0; put 2 0; ladder 0 0; come 5; go 0 2 0;"
        self.assertEqual(behind(start, "take 1 0; put 1 0; down 0"), [-12, -17, 3])

    def test_put_up_and_taken_away_all_is_as_it_was(self):
        start = BEGUN + "put 0 0; load 0 0 80;"
        self.assertEqual(behind(start, "put 0 1; load 0 1 1; take 0 1; put 0 1; unload 0 1 1; soil 0 100; soil 0 99;"
                                "take 0 1; soil 0 90; soil 0 89"), [2, -41, 1, 2, -6, 10000, -41, 1, 100, -41])

    def test_a_frame_put_again_has_nothing_of_the_old_one(self):
        start = BEGUN + "put 0 0; put 1 0; load 1 0 9; unload 1 0 9; tie 1 0; untie 1 0; ladder 1 0; noladder 1 0;"
        self.assertEqual(behind(start, "take 1 0; put 1 0; unload 1 0 1; untie 1 0; noladder 1 0; tie 1 0; ladder 1 0;"
                                "load 1 0 90"), [1, 2, -6, -6, -6, 1, 0, 90])


class Tie(unittest.TestCase):
    def test_answers_how_many_are_tied(self):
        self.assertEqual(behind(BEGUN + "put 0 0; put 0 1; put 3 0;", "tie 0 0; tie 3 0; tie 0 1"), [1, 2, 3])

    def test_no_frame_and_tied_already(self):
        self.assertEqual(behind(BEGUN + "put 0 0;", f"tie 1 0; tie 4 0; tie 0 {LARGEST}; tie 0 0; tie 0 0"),
                         [-2, -2, -2, 1, -17])


class Untie(unittest.TestCase):
    def test_answers_how_many_are_tied(self):
        self.assertEqual(behind(BEGUN + "put 0 0; put 1 0; tie 0 0; tie 1 0;", "untie 0 0; untie 1 0; tie 1 0"), [1, 0, 1])

    def test_no_frame_and_not_tied(self):
        self.assertEqual(behind(BEGUN + "put 0 0;", f"untie 1 0; untie 4 0; untie {LARGEST} 0; untie 0 0; tie 0 0;"
                                "untie 0 0; untie 0 0"), [-2, -2, -2, -6, 1, 0, -6])

    def test_it_would_itself_be_too_high(self):
        start = "begin 1 2 10 100 1; put 0 0; tie 0 0; put 0 1; tie 0 1;"
        self.assertEqual(behind(start, "untie 0 0; untie 0 1; untie 0 0; tie 0 1; untie 0 0; untie 0 1"),
                         [1, -40, -6, -17, -6, -40])

    def test_one_two_levels_above_would_be_too_high(self):
        start = "begin 1 4 10 100 2; put 0 0; tie 0 0; put 0 1; put 0 2;"
        self.assertEqual(behind(start, "untie 0 0; tie 0 2; untie 0 0; untie 0 2"), [-40, 2, 1, -40])
        self.assertEqual(behind(start, "untie 0 0; tie 0 1; untie 0 0; untie 0 1"), [-40, 2, 1, -40])

    def test_one_on_a_beam_would_be_too_high(self):
        start = "begin 3 3 10 100 1; put 0 0; put 2 0; tie 0 0; tie 2 0; span 1 1;"
        self.assertEqual(behind(start, "untie 0 0; untie 2 0; tie 1 1; untie 2 0; untie 0 0; untie 1 1"),
                         [-40, -40, 3, 2, 1, -40])

    def test_a_refused_untie_leaves_it_tied(self):
        start = "begin 1 2 10 100 1; put 0 0; tie 0 0; put 0 1;"
        self.assertEqual(behind(start, "untie 0 0; tie 0 0; tie 0 1"), [-40, -17, 2])


if __name__ == "__main__":
    unittest.main()
