"""What is told of a frame, of a person, and of all together."""

import unittest

from tests.calling import LARGEST, whole

BEGUN = "begin 4 4 10 100 4;"
BEAM = "begin 3 3 10 100 3; put 0 0; put 2 0; span 1 1;"


class Look(unittest.TestCase):
    def test_a_bare_frame(self):
        self.assertEqual(whole(BEAM + "put 0 1;", "look 0 0; look 0 1; look 1 1"),
                         [[1, 0, 0, 0, 0], [1, 0, 0, 0, 0], [2, 0, 0, 0, 0]])

    def test_no_frame(self):
        self.assertEqual(whole(BEGUN + "put 0 0;", f"look 1 0; look 0 1; look 3 3; look 4 0; look 0 4; look {LARGEST} 0;"
                               f"look 0 {LARGEST}; look {LARGEST} {LARGEST}; take 0 0; look 0 0"), [[-2]] * 8 + [[0], [-2]])

    def test_tied(self):
        self.assertEqual(whole(BEGUN + "put 0 0;", "tie 0 0; look 0 0; untie 0 0; look 0 0"),
                         [[1], [1, 1, 0, 0, 0], [0], [1, 0, 0, 0, 0]])

    def test_things(self):
        self.assertEqual(whole(BEGUN + "put 0 0;", "load 0 0 7; look 0 0; load 0 0 83; look 0 0; unload 0 0 90; look 0 0"),
                         [[7], [1, 0, 7, 0, 0], [90], [1, 0, 90, 0, 0], [0], [1, 0, 0, 0, 0]])

    def test_what_persons_weigh_there_together(self):
        start = BEGUN + "put 0 0; put 1 0; ladder 0 0; come 30; come 7; come 5; go 0 0 0; go 2 0 0; go 1 1 0;"
        self.assertEqual(whole(start, "look 0 0; look 1 0; down 0; look 0 0; down 2; look 0 0"),
                         [[1, 0, 0, 35, 1], [1, 0, 0, 7, 0], [1], [1, 0, 0, 5, 1], [1], [1, 0, 0, 0, 1]])

    def test_a_ladder_up_to_it_and_not_one_from_it(self):
        self.assertEqual(whole(BEGUN + "put 0 0; put 0 1; ladder 0 1;", "look 0 0; look 0 1; noladder 0 1; look 0 1"),
                         [[1, 0, 0, 0, 0], [1, 0, 0, 0, 1], [0], [1, 0, 0, 0, 0]])

    def test_all_at_once_on_a_beam(self):
        start = BEAM + "put 1 0; ladder 1 0; ladder 1 1; come 3; come 8; go 0 1 1; go 1 1 1; load 1 1 4; tie 1 1;"
        self.assertEqual(whole(start, "look 1 1; look 1 0; look 0 0"), [[2, 1, 4, 11, 1], [1, 0, 0, 0, 1], [1, 0, 0, 0, 0]])

    def test_a_frame_put_under_one_on_a_beam_does_not_make_it_stand(self):
        self.assertEqual(whole(BEAM, "put 1 0; look 1 1; look 1 0"), [[4], [2, 0, 0, 0, 0], [1, 0, 0, 0, 0]])

    def test_what_stood_there_before_is_gone(self):
        start = BEGUN + "put 0 0; put 2 0; put 1 0; put 1 1; load 1 1 5; unload 1 1 5; take 1 1; take 1 0;"
        self.assertEqual(whole(start, "span 1 1; look 1 1; take 1 1; look 1 1"), [[3], [2, 0, 0, 0, 0], [2], [-2]])


class Where(unittest.TestCase):
    def test_on_the_ground(self):
        self.assertEqual(whole(BEGUN + "come 30; come 200; come 1;", "where 0; where 1; where 2"),
                         [[0, 30, 0, 0], [0, 200, 0, 0], [0, 1, 0, 0]])

    def test_on_a_deck(self):
        start = BEGUN + "put 0 0; put 1 0; put 1 1; put 1 2; ladder 0 0; ladder 1 1; ladder 1 2; come 30; come 9;"
        self.assertEqual(whole(start, "go 0 0 0; where 0; go 0 1 2; where 0; where 1; down 0; where 0"),
                         [[1], [1, 30, 0, 0], [3], [1, 30, 1, 2], [0, 9, 0, 0], [4], [0, 30, 0, 0]])

    def test_no_such_person(self):
        self.assertEqual(whole(BEGUN, f"where 0; come 9; where 1; where 8; where {LARGEST}; where 0; come 201; where 1"),
                         [[-2], [0], [-2], [-2], [-2], [0, 9, 0, 0], [-22], [-2]])

    def test_the_last_of_eight(self):
        start = BEGUN + "".join(f"come {weight};" for weight in range(11, 19))
        self.assertEqual(whole(start, "where 7; where 8; come 1; where 8"), [[0, 18, 0, 0], [-2], [-28], [-2]])

    def test_refused_they_stay(self):
        start = BEGUN + "put 0 0; put 1 0; ladder 0 0; load 1 0 80; come 20; go 0 0 0;"
        self.assertEqual(whole(start, "go 0 1 0; where 0; go 0 2 0; where 0"), [[-41], [1, 20, 0, 0], [-2], [1, 20, 0, 0]])


class Sums(unittest.TestCase):
    def test_each_number(self):
        start = BEGUN + "put 0 0; put 1 0; put 2 0; put 2 1; span 3 1;"
        self.assertEqual(whole(start, "sums; tie 0 0; sums; ladder 0 0; ladder 2 1; sums; load 1 0 4; load 2 0 3; sums"),
                         [[4, 0, 0, 0, 0, 40], [1], [4, 1, 0, 0, 0, 40], [0], [0], [4, 1, 2, 0, 0, 40], [4], [3],
                          [4, 1, 2, 7, 0, 47]])

    def test_only_persons_on_decks_count(self):
        start = BEGUN + "put 0 0; ladder 0 0; come 30; come 8; come 2;"
        self.assertEqual(whole(start, "sums; go 0 0 0; sums; go 2 0 0; sums; down 0; sums"),
                         [[1, 0, 1, 0, 0, 10], [1], [1, 0, 1, 0, 1, 40], [1], [1, 0, 1, 0, 2, 42], [1], [1, 0, 1, 0, 1, 12]])

    def test_what_is_taken_away_counts_no_more(self):
        start = BEGUN + "put 0 0; put 1 0; tie 0 0; ladder 0 0; load 0 0 5;"
        self.assertEqual(whole(start, "unload 0 0 2; sums; noladder 0 0; sums; untie 0 0; sums; take 1 0; sums"),
                         [[3], [2, 1, 1, 3, 0, 23], [0], [2, 1, 0, 3, 0, 23], [0], [2, 0, 0, 3, 0, 23], [1],
                          [1, 0, 0, 3, 0, 13]])

    def test_what_is_on_beams_counts_once(self):
        self.assertEqual(whole(BEAM + "load 1 1 1;", "sums; feet"), [[3, 0, 0, 1, 0, 31], [31, 16, 0, 15]])


class State(unittest.TestCase):
    def test_what_was_told_at_begin(self):
        for numbers in ([1, 1, 1, 1, 1], [8, 6, 100, 500, 4], [2, 3, 5, 7, 4], [5, 6, 7, 8, 3]):
            self.assertEqual(whole("begin " + " ".join(str(number) for number in numbers), "state"), [numbers + [0]])

    def test_how_many_persons_there_are_up_or_not(self):
        start = BEGUN + "put 0 0; ladder 0 0;"
        self.assertEqual(whole(start, "state; come 5; come 6; state; go 0 0 0; state; come 0; state"),
                         [[4, 4, 10, 100, 4, 0], [0], [1], [4, 4, 10, 100, 4, 2], [1], [4, 4, 10, 100, 4, 2], [-22],
                          [4, 4, 10, 100, 4, 2]])

    def test_begun_anew(self):
        start = BEGUN + "put 0 0; tie 0 0; load 0 0 3; ladder 0 0; come 9; go 0 0 0;"
        self.assertEqual(whole(start, "begin 9 1 1 1 1; state; sums; begin 2 1 3 40 1; state; sums; where 0; look 0 0"),
                         [[-22], [4, 4, 10, 100, 4, 1], [1, 1, 1, 3, 1, 22], [0], [2, 1, 3, 40, 1, 0], [0, 0, 0, 0, 0, 0],
                          [-2], [-2]])


if __name__ == "__main__":
    unittest.main()
