"""The cases that the document names under 'Where it usually breaks'."""

import unittest

from tests.calling import behind, column, whole

BEAM = "begin 3 3 10 100 3; put 0 0; put 2 0; span 1 1;"


class UsualBreaks(unittest.TestCase):
    def test_a_frame_put_under_one_that_is_on_a_beam(self):
        # The upper one stays on its beam: the new one carries nothing and may be taken again.
        self.assertEqual(behind(BEAM, "put 1 0; soil 1 9; soil 1 10; soil 0 14; soil 0 15; soil 2 15; take 0 0; take 1 0"),
                         [4, -41, 10000, -41, 10000, 10000, -16, 3])

    def test_a_frame_put_under_one_on_a_beam_does_not_make_it_lower(self):
        start = "begin 3 4 10 100 2; put 0 0; put 2 0; tie 0 0; tie 2 0; put 0 1; put 2 1; span 1 2;"
        # The one on the beam is 2 high; the frames put under it reach no further than 2 themselves.
        self.assertEqual(behind(start, "put 1 0; put 1 1; untie 0 0; untie 2 0; tie 1 2; untie 0 0"),
                         [6, 7, -40, -40, 3, 2])

    def test_a_frame_may_stand_on_one_on_a_beam(self):
        self.assertEqual(behind(BEAM, "put 1 2; take 1 1; soil 0 19; soil 0 20; soil 2 19; soil 2 20"),
                         [4, -16, -41, 10000, -41, 10000])

    def test_a_beam_whose_load_is_odd(self):
        self.assertEqual(behind(BEAM, "load 1 1 1; soil 0 15; soil 0 16; soil 2 14; soil 2 15"),
                         [1, -41, 10000, -41, 10000])
        self.assertEqual(behind(BEAM + "soil 0 15; soil 2 15;", "load 1 1 1; soil 0 16; load 1 1 1; load 1 1 1"),
                         [-41, 15, 1, -41])

    def test_each_odd_beam_is_halved_by_itself(self):
        start = "begin 5 2 11 100 2; put 0 0; put 2 0; put 4 0; span 1 1; span 3 1;"
        # The middle one has 5 from its left beam and 6 from its right one.
        self.assertEqual(behind(start, "soil 0 16; soil 0 17; soil 2 21; soil 2 22; soil 4 15; soil 4 16"),
                         [-41, 10000, -41, 10000, -41, 10000])

    def test_an_odd_beam_upon_beams(self):
        start = "begin 5 3 1 100 3; put 0 0; put 2 0; put 4 0; span 1 1; span 3 1; span 2 2; load 2 2 2;"
        # 3 at the top: 2 to the left, 1 to the right; so 3 and 2 on the beams below; so 1 + 2, 1 + 1 + 1, 1 + 1.
        self.assertEqual(behind(start, "soil 0 2; soil 0 3; soil 2 2; soil 2 3; soil 4 1; soil 4 2"),
                         [-41, 10000, -41, 10000, -41, 10000])

    def test_a_tie_loosened_two_levels_below(self):
        start = "begin 1 3 10 100 2; put 0 0; tie 0 0; put 0 1; put 0 2;"
        self.assertEqual(behind(start, "untie 0 0; tie 0 2; untie 0 0"), [-40, 2, 1])

    def test_a_tie_loosened_two_levels_below_a_beam_s_end(self):
        start = "begin 3 4 10 100 3; put 0 0; tie 0 0; put 0 1; put 0 2; put 2 0; tie 2 0; put 2 1; put 2 2; span 1 3;"
        self.assertEqual(behind(start, "untie 0 0; untie 2 0; tie 0 1; untie 0 0; untie 2 0"), [-40, -40, 3, 2, -40])

    def test_a_person_just_too_heavy_where_they_would_go(self):
        start = "begin 3 1 10 100 1; put 0 0; put 1 0; put 2 0; ladder 0 0; load 1 0 70; come 21; come 20;"
        self.assertEqual(behind(start, "go 0 1 0; go 0 2 0; down 0; go 1 1 0"), [-41, 3, 3, 2])

    def test_a_person_too_heavy_only_on_the_way(self):
        start = "begin 3 1 10 100 1; put 0 0; put 1 0; put 2 0; ladder 0 0; load 0 0 90; load 1 0 90; come 90;"
        self.assertEqual(behind(start, "go 0 0 0; go 0 1 0; go 0 2 0; go 0 1 0; down 0"), [-41, -41, 3, -41, 3])

    def test_a_deck_between_two_ladders(self):
        start = "begin 2 3 10 100 3; put 0 0; put 0 1; put 0 2; ladder 0 0; ladder 0 1; ladder 0 2; come 5; go 0 0 2;"
        self.assertEqual(behind(start, "take 0 1; noladder 0 1; noladder 0 2; noladder 0 0; go 0 0 1; noladder 0 2; down 0"),
                         [-16, -12, -12, -12, 1, 0, 2])

    def test_a_deck_between_two_ladders_with_a_frame_on_a_beam_above(self):
        start = BEAM + "put 1 0; ladder 1 0; ladder 1 1; come 5; go 0 1 1;"
        self.assertEqual(behind(start, "take 1 0; noladder 1 0; noladder 1 1; down 0; noladder 1 0; take 1 0; noladder 1 1;"
                                "take 1 0"), [-13, -12, -12, 2, 0, -13, 0, 3])

    def test_a_ladder_to_a_frame_on_a_beam(self):
        self.assertEqual(behind(BEAM + "come 5;", "ladder 1 1; put 1 0; ladder 1 1; ladder 1 0; go 0 1 1; down 0"),
                         [-33, 4, 0, 0, 2, 2])

    def test_soil_that_is_made_weaker(self):
        self.assertEqual(behind(BEAM + "load 1 1 5;", "soil 0 17; soil 2 16; soil 0 18; soil 2 17; load 1 1 1; soil 0 10000;"
                                "load 1 1 1; load 1 1 1"), [-41, -41, 10000, 10000, -41, 18, -41, -41])

    def test_a_frame_at_the_end_of_the_wall(self):
        start = "begin 3 2 10 100 2; put 0 0; put 2 0; ladder 0 0; ladder 2 0; come 5;"
        self.assertEqual(behind(start, "span 0 1; span 2 1; put 0 1; put 2 1; put 3 0; go 0 2 0; go 0 0 0; ladder 0 1;"
                                "go 0 2 1"), [-33, -33, 3, 4, -22, 1, 2, 0, -33])

    def test_three_frames_that_one_carries(self):
        start = "begin 5 2 11 100 2; put 0 0; put 2 0; put 4 0; span 1 1; span 3 1; put 2 1;"
        self.assertEqual(behind(start, "soil 2 32; soil 2 33; take 2 0; take 2 1; take 2 0; take 1 1; take 2 0; take 3 1;"
                                "take 2 0"), [-41, 10000, -16, 5, -16, 4, -16, 3, 2])

    def test_three_frames_that_one_carries_reach_its_most(self):
        start = "begin 5 2 10 40 2; put 0 0; put 2 0; put 4 0; span 1 1; span 3 1; put 2 1;"
        # The middle one bears 10 + 5 + 5 + 10. It is the right end of the left beam, so there an odd one is not its;
        # it is the left end of the right beam, so there it is.
        self.assertEqual(behind(start, "load 2 1 10; load 1 1 1; load 3 1 1; unload 2 1 1; load 3 1 1; load 1 1 1; load 1 1 1"),
                         [10, 1, -41, 9, 1, -41, -41])

    def test_most_just_reached(self):
        start = "begin 1 3 10 30 3; put 0 0; put 0 1; put 0 2;"
        self.assertEqual(behind(start, "load 0 2 1; load 0 0 1; take 0 2; load 0 1 10; load 0 1 1; put 0 2; soil 0 30; soil 0 29"),
                         [-41, -41, 2, 10, -41, -41, 10000, -41])


class UsualBreaksAsTheyAreTold(unittest.TestCase):
    def test_a_frame_put_under_one_that_is_on_a_beam(self):
        self.assertEqual(whole(BEAM, "put 1 0; look 1 1; bears 1 0; feet; high 1 1; high 1 0; room 1 0; strip"),
                         [[4], [2, 0, 0, 0, 0], [10, 90], [40, 15, 10, 15], [2], [1], [90], [2, 1, 0, 1, 1]])
        # Taken off its beam and put again, it stands on the one below.
        self.assertEqual(whole(BEAM, "put 1 0; take 1 1; strip; put 1 1; look 1 1; bears 1 0; feet; strip"),
                         [[4], [3], [3, 0, 0, 1, 0, 2, 0], [4], [1, 0, 0, 0, 0], [20, 80], [40, 10, 20, 10],
                          [3, 0, 0, 2, 0, 1, 1]])

    def test_a_beam_whose_load_is_odd(self):
        self.assertEqual(whole(BEAM + "load 1 1 1; soil 0 16; soil 2 15;", "feet; room 1 1; room 0 0; room 2 0; soil 2 16; room 1 1"),
                         [[31, 16, 0, 15], [0], [0], [0], [15], [1]])

    def test_a_tie_loosened_two_levels_below(self):
        start = "begin 1 3 10 100 2; put 0 0; tie 0 0; put 0 1; put 0 2;"
        self.assertEqual(whole(start, "high 0 2; loose; untie 0 0; high 0 2; tie 0 2; loose; untie 0 0; high 0 1; high 0 2; loose"),
                         [[2], [0], [-40], [2], [2], [2, 0, 0, 0, 2], [1], [2], [0], [0]])

    def test_a_person_just_too_heavy_where_they_would_go(self):
        start = "begin 3 1 10 100 1; put 0 0; put 1 0; put 2 0; ladder 0 0; load 1 0 70; come 21; come 20;"
        self.assertEqual(whole(start, "room 1 0; way 0 1 0; go 0 1 0; way 0 2 0; where 0; go 1 1 0; room 1 0; bears 1 0; most"),
                         [[20], [2], [-41], [3], [0, 21, 0, 0], [2], [0], [100, 0], [100, 1, 0]])

    def test_a_deck_between_two_ladders(self):
        start = "begin 2 3 10 100 3;" + column(0, 3) + "put 1 0; ladder 0 0; ladder 0 1; ladder 0 2; come 5; come 6; go 0 0 2; go 1 0 1;"
        self.assertEqual(whole(start, "cut 0 0; cut 0 1; cut 0 2; strip; reached; way 0 1 0; way 1 0 2"),
                         [[2, 0, 1], [2, 0, 1], [1, 0], [1, 1, 0], [4, 0, 0, 1, 0, 0, 1, 0, 2], [3], [1]])

    def test_a_ladder_to_a_frame_on_a_beam(self):
        start = BEAM + "put 1 0; ladder 1 1; ladder 1 0; come 5;"
        self.assertEqual(whole(start, "look 1 1; way 0 1 1; reached; go 0 1 1; cut 1 1; cut 1 0; strip; noladder 1 0"),
                         [[2, 0, 0, 0, 1], [2], [4, 0, 0, 1, 0, 2, 0, 1, 1], [2], [1, 0], [1, 0], [0], [-12]])

    def test_soil_that_is_made_weaker(self):
        start = BEAM + "load 1 1 5;"
        self.assertEqual(whole(start, "room 1 1; soil 0 30; room 1 1; soil 2 20; room 1 1; soil 2 16; room 1 1; room 2 0; feet"),
                         [[85], [10000], [25], [10000], [6], [-41], [6], [3], [35, 18, 0, 17]])

    def test_a_frame_at_the_end_of_the_wall(self):
        start = "begin 3 2 10 100 2; put 0 0; put 2 0; put 0 1; put 2 1; ladder 0 0; ladder 2 1; come 5;"
        self.assertEqual(whole(start, "reached; way 0 2 1; way 0 0 1; bears 2 0; bears 0 0; strip; ladder 2 0; way 0 2 1; reached"),
                         [[1, 0, 0], [-33], [-33], [20, 80], [20, 80], [1, 0, 1], [0], [2], [3, 0, 0, 2, 0, 2, 1]])

    def test_three_frames_that_one_carries(self):
        start = "begin 5 2 11 100 2; put 0 0; put 2 0; put 4 0; span 1 1; span 3 1; put 2 1;"
        self.assertEqual(whole(start, "bears 2 0; most; strip; take 2 1; bears 2 0; take 1 1; bears 2 0; strip; take 3 1; bears 2 0"),
                         [[33, 67], [33, 2, 0], [3, 1, 1, 2, 1, 3, 1], [5], [22, 78], [4], [17, 83], [2, 0, 0, 3, 1], [3],
                          [11, 89]])

    def test_most_just_reached(self):
        start = "begin 1 3 10 30 3;" + column(0, 3)
        self.assertEqual(whole(start, "bears 0 0; room 0 0; room 0 1; room 0 2; most; take 0 2; room 0 1; load 0 1 10; room 0 1"),
                         [[30, 0], [0], [0], [0], [30, 0, 0], [2], [10], [10], [0]])


if __name__ == "__main__":
    unittest.main()
