import unittest

from tests.calling import LARGEST, behind

BEGUN = "begin 4 4 10 100 4;"


class Put(unittest.TestCase):
    def test_answers_how_many_frames_there_are(self):
        self.assertEqual(behind(BEGUN, "put 0 0; put 3 0; put 0 1; put 0 2; put 0 3"), [1, 2, 3, 4, 5])

    def test_no_such_place(self):
        self.assertEqual(behind(BEGUN, f"put 4 0; put 0 4; put {LARGEST} 0; put 0 {LARGEST}; put {LARGEST} {LARGEST}"),
                         [-22, -22, -22, -22, -22])

    def test_there_is_a_frame(self):
        self.assertEqual(behind(BEGUN, "put 1 0; put 1 0; put 1 1; put 1 1; put 1 0"), [1, -17, 2, -17, -17])

    def test_there_is_none_below(self):
        self.assertEqual(behind(BEGUN, "put 1 1; put 1 0; put 1 2; put 2 1; put 1 1"), [-33, 1, -33, -33, 2])

    def test_too_high(self):
        for free in (1, 2, 3):
            start = f"begin 1 4 10 100 {free}; put 0 0;" + "".join(f"put 0 {level};" for level in range(1, free))
            self.assertEqual(behind(start, f"put 0 {free}; tie 0 0; put 0 {free}"), [-40, 1, free + 1])

    def test_one_may_put_on_a_tied_one(self):
        self.assertEqual(behind("begin 1 3 10 100 1;", "put 0 0; put 0 1; tie 0 0; put 0 1; put 0 2; tie 0 1; put 0 2"),
                         [1, -40, 1, 2, -40, 2, 3])

    def test_too_much_for_the_frame_itself(self):
        self.assertEqual(behind("begin 1 1 100 99 1;", "put 0 0"), [-41])
        self.assertEqual(behind("begin 1 1 100 100 1;", "put 0 0"), [1])
        self.assertEqual(behind("begin 1 1 2 1 1;", "put 0 0"), [-41])
        self.assertEqual(behind("begin 1 1 1 1 1;", "put 0 0"), [1])

    def test_too_much_for_one_further_below(self):
        self.assertEqual(behind("begin 1 4 10 30 4;", "put 0 0; put 0 1; put 0 2; put 0 3"), [1, 2, 3, -41])
        self.assertEqual(behind("begin 1 4 10 30 4;", "put 0 0; load 0 0 1; put 0 1; put 0 2; unload 0 0 1; put 0 2"),
                         [1, 1, 2, -41, 0, 3])

    def test_too_high_is_told_before_too_much(self):
        self.assertEqual(behind("begin 1 2 10 19 1; put 0 0;", "put 0 1; tie 0 0; put 0 1"), [-40, 1, -41])

    def test_a_refused_put_leaves_no_frame(self):
        self.assertEqual(behind("begin 2 2 10 19 1; put 0 0;", "put 0 1; take 0 1; put 1 0; take 0 0"), [-40, -2, 2, 1])
        self.assertEqual(behind("begin 2 2 10 19 2; put 0 0;", "put 0 1; take 0 1; put 1 0; take 0 0"), [-41, -2, 2, 1])


class Span(unittest.TestCase):
    TWO = BEGUN + "put 0 0; put 2 0;"

    def test_answers_how_many_frames_there_are(self):
        self.assertEqual(behind(self.TWO, "span 1 1"), [3])

    def test_no_such_place_or_level_0(self):
        self.assertEqual(behind(self.TWO, f"span 4 1; span 1 4; span 1 0; span {LARGEST} 1; span 1 {LARGEST}; span 0 0"),
                         [-22, -22, -22, -22, -22, -22])

    def test_there_is_a_frame(self):
        self.assertEqual(behind(self.TWO, "span 1 1; span 1 1; put 1 1; put 0 1; span 0 1"), [3, -17, -17, 4, -17])

    def test_there_is_a_frame_below(self):
        self.assertEqual(behind(self.TWO, "put 1 0; span 1 1; take 1 0; span 1 1"), [3, -33, 2, 3])

    def test_there_are_not_both(self):
        self.assertEqual(behind(BEGUN, "span 1 1; put 0 0; span 1 1; take 0 0; put 2 0; span 1 1; put 0 0; span 1 2;"
                                "span 1 1"), [-33, 1, -33, 0, 1, -33, 2, -33, 3])

    def test_at_either_end_of_the_wall(self):
        start = BEGUN + "put 1 0; put 2 0;"
        self.assertEqual(behind(start, "span 0 1; span 3 1"), [-33, -33])
        self.assertEqual(behind("begin 8 2 1 9 2; put 6 0; put 0 0;", "span 7 1; span 0 1"), [-33, -33])
        self.assertEqual(behind("begin 1 2 1 9 2;", "span 0 1"), [-33])

    def test_a_beam_may_lie_on_frames_that_are_on_beams(self):
        start = "begin 5 3 10 100 3; put 0 0; put 2 0; put 4 0; span 1 1; span 3 1;"
        self.assertEqual(behind(start, "span 2 2; take 1 1; take 3 1; take 2 2; take 1 1"), [6, -16, -16, 5, 4])

    def test_too_high_goes_by_the_higher_one(self):
        for higher, lower in ((0, 2), (2, 0)):
            start = f"begin 3 3 10 100 2; put {higher} 0; put {higher} 1; put {lower} 0; tie {lower} 0;" \
                    f"put {lower} 1;"
            self.assertEqual(behind(start, f"span 1 2; tie {higher} 0; span 1 2"), [-40, 2, 5])

    def test_one_more_than_the_ground_s(self):
        self.assertEqual(behind("begin 3 2 10 100 1; put 0 0; put 2 0;", "span 1 1; tie 0 0; span 1 1; tie 2 0; span 1 1"),
                         [-40, 1, -40, 2, 3])

    def test_too_much(self):
        for side in (0, 2):
            start = f"begin 3 2 10 20 2; put 0 0; put 2 0; load {side} 0 6;"
            self.assertEqual(behind(start, f"span 1 1; unload {side} 0 1; span 1 1; load {side} 0 1"), [-41, 5, 3, -41])

    def test_too_much_for_the_spanned_frame_itself(self):
        self.assertEqual(behind("begin 3 2 10 15 2; put 0 0; put 2 0;", "span 1 1; load 1 1 1"), [3, -41])

    def test_too_high_is_told_before_too_much(self):
        start = "begin 3 2 10 14 1; put 0 0; put 2 0;"
        self.assertEqual(behind(start, "span 1 1; tie 0 0; tie 2 0; span 1 1"), [-40, 1, 2, -41])

    def test_a_refused_span_leaves_no_frame(self):
        self.assertEqual(behind("begin 3 2 10 14 1; put 0 0; put 2 0;", "span 1 1; take 1 1; take 0 0"), [-40, -2, 1])
        self.assertEqual(behind("begin 3 2 10 14 2; put 0 0; put 2 0;", "span 1 1; take 1 1; take 0 0"), [-41, -2, 1])


class Order(unittest.TestCase):
    def test_put_tells_the_place_then_the_frame_then_what_is_below(self):
        start = "begin 3 3 10 10 1; put 0 0; put 2 0;"
        self.assertEqual(behind(start, "put 0 3; put 3 1; put 0 0; put 1 1; put 0 1"), [-22, -22, -17, -33, -40])

    def test_span_tells_the_place_then_the_frame_then_what_is_below(self):
        start = "begin 3 3 10 10 1; put 0 0; put 1 0; put 2 0;"
        self.assertEqual(behind(start, "span 0 0; span 3 1; span 1 1; take 1 0; span 1 1"), [-22, -22, -33, 2, -40])
        self.assertEqual(behind("begin 1 2 10 50 2; put 0 0; put 0 1;", "span 0 1"), [-17])


if __name__ == "__main__":
    unittest.main()
