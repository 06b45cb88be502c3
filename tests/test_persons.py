import unittest

from tests.calling import LARGEST, behind, whole

BEGUN = "begin 4 4 10 100 4;"
HOUSE = BEGUN + "put 0 0; put 0 1; put 1 0; put 1 1; ladder 0 0; ladder 0 1; come 30;"


class Come(unittest.TestCase):
    def test_answers_the_person_s_number(self):
        self.assertEqual(behind(BEGUN, "come 1; come 200; come 7"), [0, 1, 2])

    def test_the_range_of_weights(self):
        self.assertEqual(behind(BEGUN, f"come 0; come 201; come {LARGEST}; come 200; come 1"), [-22, -22, -22, 0, 1])

    def test_at_most_8(self):
        told = behind(BEGUN, "come 9;" * 10 + "come 0; come 201")
        self.assertEqual(told, [0, 1, 2, 3, 4, 5, 6, 7, -28, -28, -28, -28])

    def test_they_are_on_the_ground(self):
        self.assertEqual(behind(BEGUN, "come 9; down 0"), [0, -17])

    def test_persons_on_the_ground_weigh_on_no_frame(self):
        self.assertEqual(behind("begin 1 1 10 10 1; put 0 0; soil 0 10;", "come 200; soil 0 10"), [0, 10])


class Go(unittest.TestCase):
    def test_answers_by_how_few_steps(self):
        self.assertEqual(behind(HOUSE, "go 0 0 0; go 0 1 0; go 0 1 1; go 0 0 0"), [1, 1, 3, 2])
        self.assertEqual(behind(HOUSE, "go 0 1 1"), [3])

    def test_no_such_person_or_no_frame(self):
        self.assertEqual(behind(HOUSE, f"go 1 0 0; go {LARGEST} 0 0; go 0 2 0; go 0 0 2; go 0 4 0; go 0 {LARGEST} {LARGEST}"),
                         [-2, -2, -2, -2, -2, -2])
        self.assertEqual(behind(BEGUN + "put 0 0;", "go 0 0 0"), [-2])

    def test_they_are_there(self):
        self.assertEqual(behind(HOUSE, "go 0 0 1; go 0 0 1"), [2, -17])

    def test_no_way_by_steps(self):
        self.assertEqual(behind(HOUSE + "put 3 0;", "go 0 3 0; go 0 0 0; go 0 3 0; put 2 0; go 0 3 0"), [-33, 1, -33, 6, 3])
        self.assertEqual(behind(BEGUN + "put 0 0; come 5;", "go 0 0 0; ladder 0 0; go 0 0 0"), [-33, 0, 1])

    def test_decks_beside_at_another_level_are_no_step_away(self):
        start = BEGUN + "put 0 0; ladder 0 0; put 1 0; put 1 1; come 5; go 0 0 0;"
        self.assertEqual(behind(start, "go 0 1 1; ladder 1 1; go 0 1 1"), [-33, 0, 2])

    def test_the_way_may_lead_over_the_ground(self):
        start = BEGUN + "put 0 0; put 3 0; ladder 0 0; ladder 3 0; come 5; go 0 0 0;"
        self.assertEqual(behind(start, "go 0 3 0; down 0"), [2, 1])

    def test_the_shorter_of_several_ways(self):
        start = "begin 8 2 10 100 2;" + "".join(f"put {bay} 0;" for bay in range(8)) + "ladder 0 0; come 5; go 0 7 0;"
        self.assertEqual(behind(start, "ladder 7 0; go 0 0 0; go 0 3 0; go 0 6 0; go 0 0 0"), [0, 2, 3, 3, 3])

    def test_too_much_with_them_there(self):
        start = BEGUN + "put 0 0; ladder 0 0; come 91; come 90; come 1;"
        self.assertEqual(behind(start, "go 0 0 0; go 1 0 0; go 2 0 0; down 1; go 2 0 0; go 1 0 0"), [-41, 1, -41, 1, 1, -41])

    def test_too_much_further_below_and_on_a_beam(self):
        start = BEGUN + "put 0 0; put 2 0; span 1 1; put 0 1; ladder 0 0; ladder 0 1; come 71; come 70; load 0 0 40;"
        # The left foot bears 10 + 40 + 10 from the frame on it + the larger half of 10 + the person.
        self.assertEqual(behind(start, "go 0 1 1; go 1 1 1; soil 0 99; soil 0 100; soil 2 49; soil 2 50"),
                         [-41, 3, -41, 10000, -41, 10000])

    def test_where_they_were_they_weigh_no_more(self):
        start = HOUSE + "load 0 0 50; go 0 0 1;"
        # Below, 20 of frames, 50 of things and 30: just the most, so both decks can hold them, one at a time.
        self.assertEqual(behind(start, "load 0 0 1; go 0 0 0; load 0 0 1; go 0 1 0; load 0 0 30"), [-41, 1, -41, 1, 80])

    def test_the_order_of_refusals(self):
        start = BEGUN + "put 0 0; put 1 0; load 1 0 90; come 20; come 30;"
        self.assertEqual(behind(start, "go 2 3 3; go 0 3 3; go 0 1 0; ladder 0 0; go 0 0 0; go 0 1 0; load 0 0 70; go 0 0 0"),
                         [-2, -2, -33, 0, 1, -41, 70, -17])

    def test_refused_they_stay_where_they_are(self):
        start = BEGUN + "put 0 0; put 1 0; load 1 0 90; ladder 0 0; come 20; go 0 0 0;"
        self.assertEqual(behind(start, "go 0 1 0; go 0 0 0; take 0 0; load 0 0 71; load 0 0 70; down 0"),
                         [-41, -17, -15, -41, 70, 1])


class Down(unittest.TestCase):
    def test_answers_by_how_few_steps(self):
        self.assertEqual(behind(HOUSE, "go 0 1 1; down 0; go 0 1 0; down 0; go 0 0 0; down 0"), [3, 3, 2, 2, 1, 1])

    def test_by_the_nearer_ladder(self):
        self.assertEqual(behind(HOUSE, "go 0 1 1; ladder 1 0; ladder 1 1; down 0"), [3, 0, 0, 2])

    def test_no_such_person_and_on_the_ground(self):
        self.assertEqual(behind(HOUSE, f"down 1; down {LARGEST}; down 0; go 0 0 0; down 0; down 0"), [-2, -2, -17, 1, 1, -17])
        self.assertEqual(behind(BEGUN, "down 0"), [-2])

    def test_they_weigh_no_more(self):
        self.assertEqual(behind(HOUSE + "go 0 0 1;", "load 0 1 61; down 0; load 0 1 80"), [-41, 2, 80])


class Way(unittest.TestCase):
    def test_by_how_few_steps(self):
        self.assertEqual(whole(HOUSE, "way 0 0 0; way 0 1 0; way 0 0 1; way 0 1 1"), [[1], [2], [2], [3]])
        self.assertEqual(whole(HOUSE + "go 0 1 1;", "way 0 0 0; way 0 1 0; way 0 0 1"), [[2], [3], [1]])

    def test_0_where_they_are(self):
        self.assertEqual(whole(HOUSE, "go 0 0 0; way 0 0 0; go 0 1 1; way 0 1 1"), [[1], [0], [2], [0]])

    def test_no_such_person_or_no_frame(self):
        self.assertEqual(behind(HOUSE, f"way 1 0 0; way {LARGEST} 0 0; way 0 2 0; way 0 0 2; way 0 4 0; way 0 0 4;"
                                f"way 0 {LARGEST} 0; way 0 0 {LARGEST}; way {LARGEST} {LARGEST} {LARGEST}"), [-2] * 9)
        self.assertEqual(behind(BEGUN + "put 0 0; ladder 0 0;", "way 0 0 0; come 5; way 0 0 0; way 1 0 0"), [-2, 0, 1, -2])

    def test_the_last_of_eight(self):
        self.assertEqual(behind(BEGUN + "put 0 0; ladder 0 0;" + "come 5;" * 8, "way 7 0 0; way 8 0 0"), [1, -2])

    def test_no_way_by_steps(self):
        self.assertEqual(behind(HOUSE + "put 3 0;", "way 0 3 0; put 2 0; way 0 3 0; noladder 0 0; way 0 3 0; way 0 0 0"),
                         [-33, 6, 4, 0, -33, -33])

    def test_none_such_is_told_before_no_way(self):
        self.assertEqual(behind(HOUSE + "put 3 0;", "way 1 3 0; way 0 3 1; way 0 3 0"), [-2, -2, -33])

    def test_over_the_ground_and_by_the_shorter_way(self):
        start = "begin 8 1 10 100 1;" + "".join(f"put {bay} 0;" for bay in range(8)) + "ladder 0 0; come 5; go 0 7 0;"
        self.assertEqual(behind(start, "way 0 0 0; ladder 7 0; way 0 0 0; way 0 3 0; way 0 4 0; take 3 0; way 0 2 0"),
                         [7, 0, 2, 4, 3, 7, 4])

    def test_it_is_what_go_answers(self):
        for goal in ("0 0", "1 0", "0 1", "1 1"):
            for start in ("", "go 0 0 0;", "go 0 1 0;", "go 0 0 1;", "go 0 1 1;"):
                steps, went = behind(HOUSE + start, f"way 0 {goal}; go 0 {goal}")
                self.assertEqual(went, -17 if steps == 0 else steps)

    def test_also_where_it_would_be_too_much(self):
        self.assertEqual(behind(HOUSE + "load 1 1 61;", "way 0 1 1; go 0 1 1; way 0 1 1"), [3, -41, 3])

    def test_they_stay_where_they_are(self):
        self.assertEqual(whole(HOUSE + "go 0 0 0;", "way 0 1 1; way 0 1 1; where 0; bears 1 1"),
                         [[2], [2], [1, 30, 0, 0], [10, 90]])


if __name__ == "__main__":
    unittest.main()
