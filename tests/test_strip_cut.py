"""What may be taken away or untied now, which decks are reached, and who needs a ladder."""

import unittest

from tests.calling import LARGEST, behind, column, whole

BEGUN = "begin 4 4 10 100 4;"
BEAM = "begin 3 3 10 100 3; put 0 0; put 2 0; span 1 1;"
FLAT = BEGUN + "put 0 0; put 1 0; put 2 0; ladder 0 0; come 5;"
TOWER = BEGUN + column(0, 4) + "ladder 0 0; ladder 0 1; ladder 0 2; ladder 0 3;"


class Strip(unittest.TestCase):
    def test_by_levels_then_by_bays(self):
        self.assertEqual(whole(BEGUN + "put 3 0; put 0 0; put 2 0; put 1 0; put 2 1; put 0 1;", "strip; take 0 1; strip"),
                         [[4, 1, 0, 3, 0, 0, 1, 2, 1], [5], [4, 0, 0, 1, 0, 3, 0, 2, 1]])

    def test_it_takes_none_away(self):
        start = BEGUN + "put 0 0; put 1 0; put 1 1;"
        self.assertEqual(whole(start, "strip; strip; sums; take 0 0; take 1 1; take 1 0"),
                         [[2, 0, 0, 1, 1], [2, 0, 0, 1, 1], [3, 0, 0, 0, 0, 30], [2], [1], [0]])

    def test_none(self):
        self.assertEqual(whole(BEGUN, "strip; put 0 0; tie 0 0; strip"), [[0], [1], [1], [0]])

    def test_the_only_one(self):
        # take would answer 0 here: none are left.
        self.assertEqual(whole(BEGUN + "put 2 0;", "strip; take 2 0; strip"), [[1, 2, 0], [0], [0]])

    def test_not_one_that_carries_another(self):
        self.assertEqual(whole(BEGUN + column(0, 3), "strip"), [[1, 0, 2]])
        self.assertEqual(whole(BEAM, "strip; put 1 2; strip; put 1 0; strip"), [[1, 1, 1], [4], [1, 1, 2], [5], [2, 1, 0, 1, 2]])

    def test_not_one_with_something_on_it(self):
        self.assertEqual(whole(FLAT, "load 1 0 1; strip; unload 1 0 1; strip; go 0 1 0; strip; down 0; strip"),
                         [[1], [1, 2, 0], [0], [2, 1, 0, 2, 0], [2], [1, 2, 0], [2], [2, 1, 0, 2, 0]])

    def test_not_a_tied_one(self):
        self.assertEqual(whole(BEGUN + "put 0 0; put 1 0; tie 0 0;", "strip; untie 0 0; strip"),
                         [[1, 1, 0], [0], [2, 0, 0, 1, 0]])

    def test_not_one_with_a_ladder_to_it_or_from_it(self):
        self.assertEqual(whole(BEGUN + "put 0 0; put 1 0; ladder 1 0;", "strip"), [[1, 0, 0]])
        start = BEAM + "put 1 0;"
        self.assertEqual(whole(start, "strip; ladder 1 1; strip; noladder 1 1; ladder 1 0; strip"),
                         [[2, 1, 0, 1, 1], [0], [0], [0], [0], [1, 1, 1]])

    def test_not_one_without_which_somebody_could_not_come_down(self):
        self.assertEqual(whole(FLAT, "strip; go 0 2 0; strip; go 0 1 0; strip"),
                         [[2, 1, 0, 2, 0], [3], [0], [1], [1, 2, 0]])
        # With a second ladder at the other end either way is enough.
        self.assertEqual(whole(FLAT + "put 3 0; ladder 3 0; go 0 2 0;", "strip"), [[1, 1, 0]])


class Loose(unittest.TestCase):
    def test_just_the_tied_ones_that_may_be_untied(self):
        start = "begin 2 3 10 100 2;" + "put 0 0; tie 0 0; put 0 1; put 0 2; put 1 0; tie 1 0; put 1 1;"
        self.assertEqual(whole(start, "loose; tie 0 2; loose; untie 0 0; loose"),
                         [[1, 1, 0], [3], [3, 0, 0, 1, 0, 0, 2], [2], [1, 1, 0]])

    def test_none(self):
        self.assertEqual(whole(BEGUN, "loose; put 0 0; loose"), [[0], [1], [0]])

    def test_the_only_one(self):
        # untie would answer 0 here: none are tied any more.
        self.assertEqual(whole(BEGUN + "put 2 0; tie 2 0;", "loose; untie 2 0; loose"), [[1, 2, 0], [0], [0]])

    def test_by_levels_then_by_bays(self):
        start = BEGUN + "put 0 0; put 0 1; put 1 0; put 2 0; tie 0 1; tie 2 0; tie 1 0; tie 0 0;"
        self.assertEqual(whole(start, "loose"), [[4, 0, 0, 1, 0, 2, 0, 0, 1]])

    def test_it_unties_none(self):
        start = "begin 1 2 10 100 1; put 0 0; tie 0 0; put 0 1; tie 0 1;"
        # Either may be untied: what is above or below is asked with all other ties as they are.
        self.assertEqual(whole(start, "loose; loose; high 0 0; high 0 1; untie 0 0; loose"),
                         [[2, 0, 0, 0, 1], [2, 0, 0, 0, 1], [0], [0], [1], [0]])

    def test_a_tie_two_levels_below(self):
        start = "begin 1 4 10 100 2; put 0 0; tie 0 0; put 0 1; put 0 2;"
        self.assertEqual(whole(start, "loose; take 0 2; loose"), [[0], [2], [1, 0, 0]])

    def test_a_tie_below_a_beam_s_end(self):
        start = "begin 3 3 10 100 1; put 0 0; put 2 0; tie 0 0; tie 2 0; span 1 1;"
        self.assertEqual(whole(start, "loose; tie 1 1; loose; untie 0 0; loose"),
                         [[0], [3], [3, 0, 0, 2, 0, 1, 1], [2], [1, 2, 0]])


class Reached(unittest.TestCase):
    def test_none_without_a_ladder_from_the_ground(self):
        self.assertEqual(whole(BEGUN, "reached; put 0 0; put 0 1; ladder 0 1; reached; ladder 0 0; reached"),
                         [[0], [1], [2], [0], [0], [0], [2, 0, 0, 0, 1]])

    def test_decks_beside_one_another(self):
        start = BEGUN + "put 0 0; put 1 0; put 3 0; ladder 1 0;"
        self.assertEqual(whole(start, "reached; put 2 0; reached; take 0 0; reached; noladder 1 0; reached"),
                         [[2, 0, 0, 1, 0], [4], [4, 0, 0, 1, 0, 2, 0, 3, 0], [3], [3, 1, 0, 2, 0, 3, 0], [0], [0]])

    def test_by_levels_then_by_bays(self):
        start = BEGUN + column(3, 3) + column(0, 2) + "ladder 3 0; ladder 3 1; ladder 3 2; ladder 0 0; ladder 0 1;"
        self.assertEqual(whole(start, "reached"), [[5, 0, 0, 3, 0, 0, 1, 3, 1, 3, 2]])

    def test_only_by_steps(self):
        start = BEGUN + column(0, 2) + column(1, 3) + "ladder 0 0; ladder 1 2;"
        self.assertEqual(whole(start, "reached; ladder 0 1; reached"),
                         [[2, 0, 0, 1, 0], [0], [5, 0, 0, 1, 0, 0, 1, 1, 1, 1, 2]])

    def test_a_deck_on_a_beam(self):
        self.assertEqual(whole(BEAM + "put 0 1; ladder 0 0;", "reached; ladder 0 1; reached"),
                         [[1, 0, 0], [0], [3, 0, 0, 0, 1, 1, 1]])
        self.assertEqual(whole(BEAM + "put 1 0; ladder 1 1; ladder 1 0;", "reached"), [[4, 0, 0, 1, 0, 2, 0, 1, 1]])

    def test_whether_it_would_be_too_much_is_not_asked(self):
        self.assertEqual(whole(BEGUN + "put 0 0; ladder 0 0; load 0 0 90; come 200;", "reached"), [[1, 0, 0]])


class Cut(unittest.TestCase):
    def test_no_frame_and_no_ladder(self):
        start = BEGUN + "put 0 0; put 0 1; ladder 0 1;"
        self.assertEqual(whole(start, f"cut 1 0; cut 0 2; cut 4 0; cut 0 4; cut {LARGEST} 0; cut 0 {LARGEST};"
                               f"cut {LARGEST} {LARGEST}; cut 0 0; cut 0 1"), [[-2]] * 7 + [[-6], [0]])

    def test_nobody_there_or_nobody_up(self):
        self.assertEqual(whole(TOWER, "cut 0 0; come 5; come 6; cut 0 0; cut 0 3"), [[0], [0], [1], [0], [0]])

    def test_those_above_it_rising(self):
        start = TOWER + "come 1; come 2; come 3; come 4; come 5; go 4 0 2; go 3 0 0; go 0 0 3; go 1 0 1;"
        self.assertEqual(whole(start, "cut 0 0; cut 0 1; cut 0 2; cut 0 3"), [[4, 0, 1, 3, 4], [3, 0, 1, 4], [2, 0, 4], [1, 0]])

    def test_all_eight(self):
        start = "begin 1 1 1 500 1; put 0 0; ladder 0 0;" + "come 1;" * 8
        up = "".join(f"go {person} 0 0;" for person in (7, 3, 0, 6, 1, 5, 2, 4))
        self.assertEqual(whole(start + up, "cut 0 0"), [[8, 0, 1, 2, 3, 4, 5, 6, 7]])

    def test_another_way_is_enough(self):
        start = BEGUN + "put 0 0; put 1 0; put 3 0; ladder 0 0; ladder 1 0; ladder 3 0; come 5; come 6; go 0 0 0; go 1 3 0;"
        self.assertEqual(whole(start, "cut 0 0; cut 1 0; cut 3 0; noladder 1 0; cut 0 0"), [[0], [0], [1, 1], [0], [1, 0]])

    def test_a_deck_between_two_ladders(self):
        start = BEGUN + "put 0 0; put 0 1; put 1 0; put 1 1; ladder 0 0; ladder 0 1; ladder 1 1; come 5; go 0 0 1;"
        self.assertEqual(whole(start, "cut 0 1; cut 1 1; cut 0 0; noladder 1 1; cut 0 1"), [[0], [0], [1, 0], [0], [1, 0]])

    def test_it_takes_no_ladder_away(self):
        start = TOWER + "come 5; go 0 0 3;"
        self.assertEqual(whole(start, "cut 0 2; cut 0 2; look 0 2; sums; down 0"),
                         [[1, 0], [1, 0], [1, 0, 0, 0, 1], [4, 0, 4, 0, 1, 45], [4]])

    def test_noladder_is_refused_just_where_it_is_above_0(self):
        start = BEGUN + "put 0 0; put 1 0; put 1 1; ladder 0 0; ladder 1 0; ladder 1 1; come 5; go 0 1 1;"
        self.assertEqual(behind(start, "cut 1 1; noladder 1 1; cut 1 0; noladder 1 0; cut 0 0; noladder 0 0; go 0 1 0;"
                                "cut 1 1; noladder 1 1"), [1, -12, 0, 0, 1, -12, 1, 0, 0])


if __name__ == "__main__":
    unittest.main()
