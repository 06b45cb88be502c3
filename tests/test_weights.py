"""What frames and the ground bear, what more may be put on a deck, and how high frames are."""

import unittest

from tests.calling import LARGEST, behind, column, whole

BEGUN = "begin 4 4 10 100 4;"
BEAM = "begin 3 3 10 100 3; put 0 0; put 2 0; span 1 1;"
THREE = "begin 5 2 11 100 2; put 0 0; put 2 0; put 4 0; span 1 1; span 3 1; put 2 1;"
ODD_UPON_BEAMS = "begin 5 3 1 100 3; put 0 0; put 2 0; put 4 0; span 1 1; span 3 1; span 2 2; load 2 2 2;"
NO_FRAME = (f"{{0}} 1 0; {{0}} 0 1; {{0}} 3 3; {{0}} 4 0; {{0}} 0 4; {{0}} {LARGEST} 0; {{0}} 0 {LARGEST};"
            f"{{0}} {LARGEST} {LARGEST}")


class Bears(unittest.TestCase):
    def test_what_it_bears_then_how_much_less_than_its_most(self):
        self.assertEqual(whole(BEGUN + "put 0 0;", "bears 0 0; load 0 0 7; bears 0 0"), [[10, 90], [7], [17, 83]])

    def test_no_frame(self):
        self.assertEqual(whole(BEGUN + "put 0 0;", NO_FRAME.format("bears")), [[-2]] * 8)

    def test_all_that_stands_on_it(self):
        start = BEGUN + column(1, 4) + "load 1 3 5; load 1 1 3;"
        self.assertEqual(whole(start, "bears 1 0; bears 1 1; bears 1 2; bears 1 3"), [[48, 52], [38, 62], [25, 75], [15, 85]])

    def test_persons_on_its_deck_and_not_those_on_the_ground(self):
        start = BEGUN + "put 0 0; put 0 1; ladder 0 0; ladder 0 1; come 30; come 8; come 5; go 0 0 1; go 2 0 1;"
        self.assertEqual(whole(start, "bears 0 1; bears 0 0; go 2 0 0; bears 0 1; bears 0 0; down 0; bears 0 1"),
                         [[45, 55], [55, 45], [1], [40, 60], [55, 45], [2], [10, 90]])

    def test_half_of_what_is_on_a_beam(self):
        self.assertEqual(whole(BEAM, "bears 0 0; bears 2 0; bears 1 1"), [[15, 85], [15, 85], [10, 90]])

    def test_of_an_odd_load_the_left_one_has_one_more(self):
        self.assertEqual(whole(BEAM + "load 1 1 1;", "bears 0 0; bears 2 0; bears 1 1"), [[16, 84], [15, 85], [11, 89]])

    def test_what_stands_on_a_frame_on_a_beam_is_halved_with_it(self):
        self.assertEqual(whole(BEAM + "put 1 2; load 1 2 3; load 1 1 4;", "bears 1 2; bears 1 1; bears 0 0; bears 2 0"),
                         [[13, 87], [27, 73], [24, 76], [23, 77]])

    def test_a_frame_put_under_one_on_a_beam_bears_nothing_of_it(self):
        self.assertEqual(whole(BEAM + "put 1 0;", "bears 1 0; bears 0 0; bears 2 0"), [[10, 90], [15, 85], [15, 85]])

    def test_three_frames_that_one_carries(self):
        self.assertEqual(whole(THREE, "bears 2 0; bears 0 0; bears 4 0"), [[33, 67], [17, 83], [16, 84]])

    def test_odd_loads_upon_beams_upon_beams(self):
        self.assertEqual(whole(ODD_UPON_BEAMS, "bears 2 2; bears 1 1; bears 3 1; bears 0 0; bears 2 0; bears 4 0"),
                         [[3, 97], [3, 97], [2, 98], [3, 97], [3, 97], [2, 98]])

    def test_most_just_reached(self):
        self.assertEqual(whole(BEGUN + "put 0 0;", "load 0 0 90; bears 0 0; load 0 0 1; bears 0 0"),
                         [[90], [100, 0], [-41], [100, 0]])
        self.assertEqual(whole("begin 1 1 1 1 1; put 0 0;", "bears 0 0"), [[1, 0]])
        self.assertEqual(whole("begin 1 1 1 500 1; put 0 0; load 0 0 499;", "bears 0 0"), [[500, 0]])


class Feet(unittest.TestCase):
    def test_all_bays_together_then_each(self):
        self.assertEqual(whole(BEGUN + "put 0 0; put 0 1; put 3 0; load 3 0 9;", "feet"), [[39, 20, 0, 0, 19]])

    def test_one_number_for_each_bay(self):
        for bays in range(1, 9):
            self.assertEqual(whole(f"begin {bays} 1 1 1 1;", "feet"), [[0] * (bays + 1)])

    def test_what_is_on_beams_comes_to_both_sides(self):
        self.assertEqual(whole(BEAM, "feet; load 1 1 1; feet; put 1 0; feet"),
                         [[30, 15, 0, 15], [1], [31, 16, 0, 15], [4], [41, 16, 10, 15]])
        self.assertEqual(whole(THREE, "feet"), [[66, 17, 0, 33, 0, 16]])
        self.assertEqual(whole(ODD_UPON_BEAMS, "feet"), [[8, 3, 0, 3, 0, 2]])

    def test_persons_weigh_only_while_they_are_up(self):
        start = BEGUN + "put 1 0; ladder 1 0; come 50;"
        self.assertEqual(whole(start, "feet; go 0 1 0; feet; down 0; feet"),
                         [[10, 0, 10, 0, 0], [1], [60, 0, 60, 0, 0], [1], [10, 0, 10, 0, 0]])

    def test_it_is_not_what_the_ground_may_bear(self):
        self.assertEqual(whole(BEGUN + "put 1 0;", "soil 1 10; soil 0 0; feet"), [[10000], [10000], [10, 0, 10, 0, 0]])

    def test_what_is_refused_does_not_weigh(self):
        self.assertEqual(whole(BEGUN + "put 1 0;", "load 1 0 91; put 1 2; feet"), [[-41], [-33], [10, 0, 10, 0, 0]])


class Room(unittest.TestCase):
    def holds(self, start, place, expected):
        """room answers it, so much may be loaded, and one more may not."""
        self.assertEqual(whole(start, f"room {place}; load {place} {expected + 1}"), [[expected], [-41]])
        if expected > 0:
            things = whole(start, f"look {place}")[0][2]
            self.assertEqual(whole(start, f"load {place} {expected}; room {place}; load {place} 1"),
                             [[things + expected], [0], [-41]])

    def test_up_to_its_own_most(self):
        self.holds(BEGUN + "put 0 0;", "0 0", 90)
        self.holds(BEGUN + "put 0 0; load 0 0 7;", "0 0", 83)
        self.holds("begin 1 1 1 500 1; put 0 0;", "0 0", 499)
        self.holds("begin 1 1 1 2 1; put 0 0;", "0 0", 1)
        self.holds("begin 1 1 100 101 1; put 0 0;", "0 0", 1)

    def test_every_most(self):
        for most in range(10, 51):
            self.holds(f"begin 1 1 10 {most} 1; put 0 0;", "0 0", most - 10)

    def test_no_frame(self):
        self.assertEqual(whole(BEGUN + "put 0 0;", NO_FRAME.format("room")), [[-2]] * 8)

    def test_room_for_none(self):
        self.holds("begin 1 1 1 1 1; put 0 0;", "0 0", 0)
        self.holds("begin 1 1 100 100 1; put 0 0;", "0 0", 0)
        self.holds(BEGUN + "put 0 0; load 0 0 90;", "0 0", 0)
        self.holds(BEGUN + "put 0 0; put 0 1; load 0 0 80;", "0 1", 0)
        self.holds(BEGUN + "soil 0 10; put 0 0;", "0 0", 0)

    def test_the_ground_ends_it(self):
        self.holds(BEGUN + "put 0 0; soil 0 12;", "0 0", 2)
        self.holds(BEGUN + "put 0 0; put 0 1; load 0 0 3; soil 0 30;", "0 1", 7)
        self.holds(BEGUN + "put 0 0; put 0 1; load 0 0 3; soil 0 30;", "0 0", 7)
        self.holds(BEGUN + "put 0 0; soil 0 100;", "0 0", 90)
        self.holds(BEGUN + "put 0 0; soil 0 99;", "0 0", 89)

    def test_the_ground_of_another_bay_does_not(self):
        self.holds(BEGUN + "put 0 0; put 1 0; soil 1 10; soil 2 0;", "0 0", 90)

    def test_a_frame_far_below_ends_it(self):
        start = "begin 1 6 10 100 4;" + column(0, 3) + "tie 0 2; put 0 3; put 0 4; put 0 5;"
        self.holds(start, "0 5", 40)
        self.holds(start + "load 0 1 15;", "0 5", 25)
        self.holds(start + "load 0 0 15; load 0 3 1;", "0 5", 24)

    def test_persons_take_room(self):
        start = BEGUN + "put 0 0; put 0 1; ladder 0 0; ladder 0 1; come 30; come 5;"
        self.holds(start + "go 0 0 0;", "0 0", 50)
        self.holds(start + "go 0 0 1; go 1 0 0;", "0 1", 45)
        self.holds(start, "0 1", 80)

    def test_of_a_beam_s_load_the_odd_one_goes_to_the_left(self):
        # The foot has 10 for its half of the beam's load: 20 at most on the left, 21 on the right.
        self.holds(BEAM + "load 0 0 80;", "1 1", 10)
        self.holds(BEAM + "load 2 0 80;", "1 1", 11)
        self.holds(BEAM + "load 0 0 80; load 2 0 80;", "1 1", 10)
        self.holds(BEAM + "soil 0 20;", "1 1", 10)
        self.holds(BEAM + "soil 2 20;", "1 1", 11)

    def test_of_an_odd_load_of_a_beam(self):
        odd = "begin 3 3 11 100 3; put 0 0; put 2 0; span 1 1;"
        # The left foot bears 11 + 6, and no more with 12 on the beam; the right one 11 + 5, and with 12 one more.
        self.holds(odd + "soil 0 17;", "1 1", 1)
        self.holds(odd + "soil 2 16;", "1 1", 0)
        self.holds(odd + "soil 0 18;", "1 1", 3)
        self.holds(odd + "soil 2 17;", "1 1", 2)

    def test_a_full_foot_on_the_left_takes_none_more_and_one_on_the_right_one(self):
        self.holds(BEAM + "load 0 0 85;", "1 1", 0)
        self.holds(BEAM + "load 2 0 85;", "1 1", 1)

    def test_beams_upon_beams(self):
        # With t at the top the left foot bears 1 + half of 1 + half of t, each half rounded up; the right one down.
        start = "begin 5 3 1 100 3; put 0 0; put 2 0; put 4 0; span 1 1; span 3 1; span 2 2;"
        self.holds(start + "soil 0 3;", "2 2", 5)
        self.holds(start + "soil 4 3;", "2 2", 8)

    def test_one_that_stands_on_a_frame_on_a_beam(self):
        self.holds(BEAM + "put 1 2;", "1 2", 80)
        self.holds(BEAM + "put 1 2; soil 2 25;", "1 2", 11)

    def test_a_frame_under_one_on_a_beam(self):
        self.holds(BEAM + "put 1 0; load 1 1 50;", "1 0", 90)

    def test_it_loads_nothing(self):
        self.assertEqual(whole(BEGUN + "put 0 0; load 0 0 4;", "room 0 0; room 0 0; bears 0 0; look 0 0"),
                         [[86], [86], [14, 86], [1, 0, 4, 0, 0]])


class High(unittest.TestCase):
    def test_one_more_at_each_level(self):
        self.assertEqual(behind(BEGUN + column(2, 4), "high 2 0; high 2 1; high 2 2; high 2 3"), [1, 2, 3, 4])

    def test_no_frame(self):
        self.assertEqual(whole(BEGUN + "put 0 0;", NO_FRAME.format("high")), [[-2]] * 8)

    def test_from_a_tie_it_counts_anew(self):
        start = BEGUN + column(0, 4) + "tie 0 1;"
        self.assertEqual(behind(start, "high 0 0; high 0 1; high 0 2; high 0 3; tie 0 0; high 0 0; tie 0 3; high 0 3"),
                         [1, 0, 1, 2, 2, 0, 3, 0])

    def test_untied_it_is_high_again(self):
        self.assertEqual(behind(BEGUN + "put 0 0; put 0 1; tie 0 0;", "high 0 1; untie 0 0; high 0 0; high 0 1"), [1, 0, 1, 2])

    def test_on_a_beam_it_goes_by_the_higher_one(self):
        start = BEGUN + "put 0 0; put 0 1; put 2 0; put 2 1; span 1 2;"
        self.assertEqual(behind(start, "high 1 2; tie 0 0; high 1 2; tie 2 1; high 1 2; untie 0 0; high 1 2; tie 1 2; high 1 2"),
                         [3, 1, 3, 2, 2, 1, 3, 2, 0])
        self.assertEqual(behind(start + "tie 0 1;", "high 1 2"), [3])
        self.assertEqual(behind(start + "tie 0 1; tie 2 1;", "high 1 2"), [1])

    def test_on_one_that_is_on_a_beam(self):
        self.assertEqual(behind(BEAM + "put 1 2;", "high 1 1; high 1 2; tie 1 1; high 1 2"), [2, 3, 1, 1])

    def test_a_frame_put_under_one_on_a_beam_does_not_change_it(self):
        start = BEGUN + "put 0 0; put 2 0; tie 0 0; tie 2 0; span 1 1;"
        self.assertEqual(behind(start, "high 1 1; put 1 0; high 1 1; high 1 0; tie 1 0; high 1 1"), [1, 4, 1, 1, 3, 1])

    def test_a_refused_untie_leaves_it(self):
        self.assertEqual(behind("begin 1 2 10 100 1; put 0 0; tie 0 0; put 0 1;", "untie 0 0; high 0 0; high 0 1"), [-40, 0, 1])


class Most(unittest.TestCase):
    def test_no_frames(self):
        self.assertEqual(whole(BEGUN, "most; come 200; soil 0 5; most; put 1 0; take 1 0; most"),
                         [[-6], [0], [10000], [-6], [1], [0], [-6]])

    def test_what_it_bears_then_its_bay_and_level(self):
        self.assertEqual(whole(BEGUN + "put 2 0; put 1 0;", "load 2 0 1; most; load 1 0 2; most"),
                         [[1], [11, 2, 0], [2], [12, 1, 0]])

    def test_a_frame_on_a_beam_may_bear_more_than_those_below(self):
        self.assertEqual(whole(BEAM + "load 1 1 80;", "most; put 1 2; most"), [[90, 1, 1], [4], [100, 1, 1]])

    def test_persons_count(self):
        start = BEGUN + "put 0 0; put 1 0; ladder 0 0; come 40;"
        self.assertEqual(whole(start, "most; go 0 1 0; most; down 0; most"), [[10, 0, 0], [2], [50, 1, 0], [2], [10, 0, 0]])

    def test_of_alike_ones_the_first_bay(self):
        self.assertEqual(whole(BEGUN + "put 3 0; put 1 0; put 2 0;", "most; put 0 0; most; load 3 0 1; load 2 0 1; most"),
                         [[10, 1, 0], [4], [10, 0, 0], [1], [1], [11, 2, 0]])

    def test_of_alike_ones_the_first_level(self):
        # The one on the beam bears 90 at bay 1; so does the right foot, at bay 2 but a level below.
        self.assertEqual(whole(BEAM + "load 1 1 80;", "load 2 0 34; most; load 2 0 1; most; load 2 0 1; most"),
                         [[34], [90, 1, 1], [35], [90, 2, 0], [36], [91, 2, 0]])

    def test_of_alike_ones_higher_up_the_first_bay(self):
        start = "begin 7 2 10 100 2; put 6 0; put 4 0; put 2 0; put 0 0; span 5 1; span 1 1; load 5 1 80; load 1 1 80;"
        self.assertEqual(whole(start, "most; unload 1 1 1; most"), [[90, 1, 1], [79], [90, 5, 1]])


if __name__ == "__main__":
    unittest.main()
