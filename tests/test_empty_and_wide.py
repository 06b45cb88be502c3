"""What each telling call answers on a wall without frames, and on the widest one."""

import unittest

from tests.calling import LARGEST, column, read, whole, whole_answers

WIDTH = range(8)
HEIGHT = range(6)


def everywhere(call):
    return "".join(f"{call} {bay} {level};" for level in HEIGHT for bay in WIDTH)


def places(levels):
    return [number for level in levels for bay in WIDTH for number in (bay, level)]


class EmptyWall(unittest.TestCase):
    def test_all_of_it(self):
        for bays, levels in ((1, 1), (3, 2), (8, 6)):
            start = f"begin {bays} {levels} 10 100 4;"
            self.assertEqual(whole(start, "feet; strip; loose; reached; most; sums; state"),
                             [[0] * (bays + 1), [0], [0], [0], [-6], [0, 0, 0, 0, 0, 0], [bays, levels, 10, 100, 4, 0]])

    def test_no_frame_anywhere(self):
        for call in ("bears", "room", "high", "cut", "look"):
            self.assertEqual(whole("begin 8 6 10 100 4; come 5;", everywhere(call)), [[-2]] * 48)

    def test_nobody_there(self):
        self.assertEqual(whole("begin 8 6 10 100 4;", f"where 0; where 7; where {LARGEST}; way 0 0 0; way 7 7 5"), [[-2]] * 5)

    def test_frames_taken_away_again(self):
        start = "begin 2 2 10 100 2; soil 0 50; put 0 0; put 0 1; take 0 1; take 0 0;"
        self.assertEqual(whole(start, "feet; strip; loose; reached; most; sums; look 0 0"),
                         [[0, 0, 0], [0], [0], [0], [-6], [0] * 6, [-2]])


class WidestWall(unittest.TestCase):
    BARE = "begin 8 6 10 500 4;" + "".join(f"put {bay} {level};" + (f"tie {bay} 3;" if level == 3 else "")
                                          for level in HEIGHT for bay in WIDTH)
    FULL = BARE + "".join(f"ladder 0 {level};" for level in HEIGHT)

    def test_all_is_put_up(self):
        self.assertTrue(all(told[0] >= 0 for told in whole_answers(read(self.FULL))))

    def test_bears_and_feet(self):
        self.assertEqual(whole(self.FULL, everywhere("bears")),
                         [[10 * (6 - level), 500 - 10 * (6 - level)] for level in HEIGHT for bay in WIDTH])
        self.assertEqual(whole(self.FULL, "feet"), [[480] + [60] * 8])

    def test_room(self):
        self.assertEqual(whole(self.FULL, everywhere("room")), [[440]] * 48)
        self.assertEqual(whole(self.FULL, "soil 7 60; room 7 5; room 6 5; load 6 5 440; room 6 0"),
                         [[10000], [0], [440], [440], [0]])

    def test_high(self):
        self.assertEqual(whole(self.FULL, everywhere("high")), [[(1, 2, 3, 0, 1, 2)[level]] for level in HEIGHT for bay in WIDTH])

    def test_most(self):
        self.assertEqual(whole(self.FULL, "most; load 7 5 1; most"), [[60, 0, 0], [1], [61, 7, 0]])

    def test_strip(self):
        self.assertEqual(whole(self.BARE, "strip"), [[8] + places([5])])
        self.assertEqual(whole(self.FULL, "strip"), [[7] + places([5])[2:]])

    def test_loose(self):
        self.assertEqual(whole(self.FULL, "loose"), [[0]])
        tied = "".join(f"tie {bay} 4;" for bay in reversed(WIDTH))
        self.assertEqual(whole(self.FULL + tied, "loose"), [[16] + places([3, 4])])

    def test_reached(self):
        self.assertEqual(whole(self.BARE, "reached"), [[0]])
        self.assertEqual(whole(self.FULL, "reached"), [[48] + places(HEIGHT)])
        self.assertEqual(whole(self.FULL, "noladder 0 3; reached"), [[0], [24] + places([0, 1, 2])])

    def test_way(self):
        calls = "".join(f"way 0 {bay} {level};" for level in HEIGHT for bay in WIDTH)
        self.assertEqual(whole(self.FULL + "come 5;", calls), [[1 + level + bay] for level in HEIGHT for bay in WIDTH])
        self.assertEqual(whole(self.FULL + "come 5; go 0 7 5;", calls),
                         [[(5 - level) + (7 + bay if level < 5 else 7 - bay)] for level in HEIGHT for bay in WIDTH])
        self.assertEqual(whole(self.FULL + "come 5;", "way 0 8 0; way 0 0 6; way 1 7 5"), [[-2]] * 3)

    def test_cut(self):
        up = "".join(f"come 5; go {person} {person} {person % 6};" for person in WIDTH)
        self.assertEqual(whole(self.FULL + up, "cut 0 0; cut 0 2; cut 0 5; cut 7 5; cut 0 6; cut 8 0"),
                         [[8, 0, 1, 2, 3, 4, 5, 6, 7], [4, 2, 3, 4, 5], [1, 5], [-6], [-2], [-2]])

    def test_look_where_sums_and_state(self):
        start = self.FULL + "come 9; come 200; go 1 7 5; load 7 5 3; tie 7 5;"
        self.assertEqual(whole(start, "look 7 5; look 0 5; look 8 5; look 7 6; where 1; where 0; where 2; sums; state"),
                         [[1, 1, 3, 200, 0], [1, 0, 0, 0, 1], [-2], [-2], [1, 200, 7, 5], [0, 9, 0, 0], [-2],
                          [48, 9, 6, 3, 1, 683], [8, 6, 10, 500, 4, 2]])

    def test_beams_from_end_to_end(self):
        # Frames at the even bays; on their beams those at 1, 3 and 5; on these, those at 2 and 4; and one at 3.
        start = "begin 8 6 11 500 4; put 0 0; put 2 0; put 4 0; put 6 0; span 1 1; span 3 1; span 5 1; span 2 2; span 4 2; span 3 3;"
        self.assertEqual(whole(start, "bears 3 3; bears 2 2; bears 4 2; bears 1 1; bears 3 1; bears 5 1; feet; sums; strip; most"),
                         [[11, 489], [17, 483], [16, 484], [20, 480], [27, 473], [19, 481],
                          [110, 21, 0, 35, 0, 34, 0, 20, 0], [10, 0, 0, 0, 0, 110], [1, 3, 3], [35, 2, 0]])

    def test_one_column_at_the_end_of_the_wall(self):
        start = "begin 8 6 10 500 4;" + column(7, 4) + "ladder 7 0; come 5;"
        self.assertEqual(whole(start, "feet; reached; strip; way 0 7 0; way 0 7 1; most"),
                         [[40, 0, 0, 0, 0, 0, 0, 0, 40], [1, 7, 0], [1, 7, 3], [1], [-33], [40, 7, 0]])


if __name__ == "__main__":
    unittest.main()
