"""Stacks at fault and free ones, in figures whose points are plain to see.

At the place (0, 1) the way from the crank's centre to its pin goes to the right, at (1, 1)
upwards, at (1, 0) to the left, at (1, 3) by 4 to the right for each 3 upwards.
"""

import unittest

from helper import told_fault

RIGHT = (0, 1, 0)
UP = (1, 1, 0)
LEFT = (1, 0, 0)

# D is (4, 3); the dyad's second bar goes from (4, -3) up to there. Pieces: AC, AD, BD.
UPRIGHT = "pin A 0 0\npin B 4 -3\ncrank C A %d\ndyad D A 5 B 6\n"
# The same dyad, and a crank whose riders are put at (u, v) from (-20, 0). Pieces: ECRS, AD, BD.
SPREAD = "pin A 0 0\npin B 4 -3\npin E -20 0\ncrank C E 1\ndyad D A 5 B 6\nrider R E C %s\nrider S E C %s\n"
# The same dyad; E lies on its second bar. Pieces: EC, AD, BD.
PIERCED = "pin A 0 0\npin B 4 -3\npin E 4 0\ncrank C E %d\ndyad D A 5 B 6\n"


def riders(text):
    """The upright dyad, and a crank's bar 3 long with riders."""
    return UPRIGHT % 3 + text


class TwoPieces(unittest.TestCase):
    def meets(self, text, *figures):
        for figure in figures:
            self.assertEqual(told_fault(text, [1, 2, 1], figure), [1, 3, 0, 0, 2], (text, figure))

    def apart(self, text, *figures):
        for figure in figures:
            self.assertEqual(told_fault(text, [1, 2, 1], figure), [0], (text, figure))

    def test_segments(self):
        self.meets(UPRIGHT % 5, RIGHT)
        self.apart(UPRIGHT % 3, RIGHT)
        self.apart(UPRIGHT % 5, UP, LEFT)

    def test_places_of_one_turn(self):
        for figure in ((0, 1, 0), (0, -1, 0), (0, 99, 0), (0, -42, 0)):
            self.meets(UPRIGHT % 5, figure)
        for figure in ((1, 3, 0), (33, 99, 0), (-1, -3, 0)):
            self.meets(UPRIGHT % 5, figure)
        for figure in ((1, 1, 0), (-7, -7, 0), (1, 0, 0), (-5, 0, 0), (3, 1, 0), (-3, 1, 0)):
            self.apart(UPRIGHT % 5, figure)

    def test_turn_to_the_left_and_to_the_right(self):
        # B lies below A, so the bar that reaches up to (0, 3) is met in an upward turn alone.
        text = "pin A -4 0\npin B 0 0\ncrank C A 5\ndyad D A 5 B 3\n"
        self.meets(text, (1, 3, 0))
        self.apart(text, (-1, 3, 0), (1, -3, 0))
        self.meets(text, (-1, 3, 1), (1, -3, 1))

    def test_side(self):
        self.meets(UPRIGHT % 5, (0, 1, 0))
        self.apart(UPRIGHT % 5, (0, 1, 1))

    def test_end_within_a_piece(self):
        self.meets(UPRIGHT % 4, RIGHT)

    def test_end_on_an_end(self):
        self.meets(UPRIGHT % 5, (1, 3, 0))
        self.apart(UPRIGHT % 4, (1, 3, 0))
        self.meets("pin A 0 0\npin B 4 3\ncrank C A 5\ndyad D A 6 B 7\n", (1, 3, 0), (1, 3, 1))
        self.apart("pin A 0 0\npin B 4 3\ncrank C A 4\ndyad D A 6 B 7\n", (1, 3, 0), (1, 3, 1))

    def test_circles_that_touch(self):
        # From outside at (4, 0), from inside at (9, 0): both sides tell it.
        outside = "pin A 0 0\npin B 10 0\ncrank C A %d\ndyad D A 4 B 6\n"
        inside = "pin A 0 0\npin B 5 0\ncrank C A %d\ndyad D A 9 B 4\n"
        for sides in (0, 1):
            self.apart(outside % 3, (0, 1, sides))
            self.meets(outside % 4, (0, 1, sides))
            self.apart(inside % 4, (0, 1, sides))
            self.meets(inside % 5, (0, 1, sides))

    def test_along_a_common_line(self):
        text = "pin A 0 0\npin B 10 0\ncrank C A %d\ndyad D A 4 B 6\n"
        self.apart(text % 3, RIGHT)
        for reach in (4, 5, 9, 10, 11, 99):
            self.meets(text % reach, RIGHT)
            self.apart(text % reach, LEFT, UP)

    def test_alongside(self):
        self.apart("pin A 0 0\npin B 0 1\npin E 9 9\ncrank C A 9\ndyad D E 8 B 9\n", (0, 1, 0), (0, 1, 1))

    def test_rider_on_an_end(self):
        self.meets(UPRIGHT % 4 + "rider R A C 1 0\nrider S A C 0 0\n", RIGHT)
        self.apart(UPRIGHT % 3 + "rider R A C 1 0\nrider S A C 0 0\n", RIGHT)

    def test_rider_in_line(self):
        self.apart(riders("rider R A C 13/10 0\n"), RIGHT)
        self.meets(riders("rider R A C 4/3 0\n"), RIGHT)
        self.meets(riders("rider R C A -1/3 0\n"), RIGHT)
        self.apart(riders("rider R C A 5 0\n"), RIGHT)
        self.meets(riders("rider R C A 5 0\n"), LEFT)

    def test_triangle(self):
        self.apart(riders("rider R A C 1 1\n"), RIGHT)
        self.apart(riders("rider R A C 13/10 1/3\n"), RIGHT)
        self.meets(riders("rider R A C 4/3 1/3\n"), RIGHT)
        self.meets(riders("rider R A C 2 0\n"), RIGHT)
        self.meets(riders("rider R A C 4/3 1\n"), RIGHT)
        self.apart(riders("rider R A C 4/3 21/20\n"), RIGHT)
        self.meets(riders("rider R A C 2 -5/3\n"), RIGHT)
        self.apart(riders("rider R A C 4/3 -21/20\n"), RIGHT)

    def test_rider_to_the_left_of_the_way(self):
        # Upwards from A, the rider lies on the left with v above 0, from C on the right.
        self.meets(riders("rider R A C 0 -4/3\n"), UP)
        self.apart(riders("rider R A C 0 4/3\n"), UP)
        self.meets(riders("rider R C A 1 4/3\n"), UP)
        self.apart(riders("rider R C A 1 -4/3\n"), UP)

    def test_riders_of_a_dyads_bars(self):
        # From (4, -3) up to (4, 3): the left is towards A.
        self.apart(riders("rider R B D 1/2 1/7\n"), RIGHT)
        self.meets(riders("rider R B D 1/2 1/6\n"), RIGHT)
        self.meets(riders("rider R D B 1/2 -1/6\n"), RIGHT)
        self.apart(riders("rider R B D 1/2 -1/6\n"), RIGHT)
        self.meets(riders("rider R B D 1/2 1/7\nrider S B D 3/4 1\n"), RIGHT)
        self.assertEqual(told_fault(riders("rider R A D 1/2 0\n"), [1, 2, 1], RIGHT), [0])

    def test_four_points(self):
        self.apart(riders("rider R A C 13/10 2\nrider S A C 13/10 -2\n"), RIGHT)
        self.meets(riders("rider R A C 3/2 2\nrider S A C 3/2 -2\n"), RIGHT)
        self.meets(riders("rider R A C 0 2\nrider S A C 4/3 -1\n"), RIGHT)

    def test_one_piece_within_the_other(self):
        self.meets(SPREAD % ("40 30", "40 -30"), RIGHT)
        self.apart(SPREAD % ("40 30", "40 20"), RIGHT)
        self.meets(SPREAD % ("24 5", "24 -5"), RIGHT)
        self.meets(SPREAD % ("24 3", "24 -3"), RIGHT)
        self.assertEqual(told_fault(SPREAD % ("23 5", "23 -5"), [1, 2, 1], RIGHT), [2, 3, 0, 0, 0])

    def test_crossing_with_no_point_covered(self):
        self.meets(SPREAD % ("40 1", "40 -1"), RIGHT)
        self.meets(SPREAD % ("40 2", "0 1"), RIGHT)
        self.apart(SPREAD % ("40 -8", "0 -1"), RIGHT)

    def test_other_heights(self):
        for heights in ([1, 2, 3], [1, 3, 2], [3, 4, 2]):
            self.assertEqual(told_fault(UPRIGHT % 5, heights, RIGHT), [0])
        for height in (2, 3, 4):
            self.assertEqual(told_fault(UPRIGHT % 5, [height, 1, height], RIGHT), [1, 3, 0, 0, 2])


class PinAndPiece(unittest.TestCase):
    def test_between_its_ends(self):
        self.assertEqual(told_fault(PIERCED % 1, [3, 2, 1], RIGHT), [2, 3, 0, 2, 2])
        self.assertEqual(told_fault(PIERCED % 1, [3, 1, 2], RIGHT), [2, 3, 0, 2, 2])
        self.assertEqual(told_fault(PIERCED % 1, [4, 1, 3], RIGHT), [2, 3, 0, 2, 2])

    def test_above_its_ends(self):
        self.assertEqual(told_fault(PIERCED % 1, [1, 3, 2], RIGHT), [0])
        self.assertEqual(told_fault(PIERCED % 1, [2, 1, 3], RIGHT), [0])
        self.assertEqual(told_fault(PIERCED % 1, [2, 1, 4], RIGHT), [0])

    def test_at_its_end(self):
        self.assertEqual(told_fault(PIERCED % 1, [2, 1, 2], RIGHT), [1, 3, 0, 0, 2])

    def test_pin_without_the_ground(self):
        # C lies on D, whose pin goes from 1 up to 3, or down.
        self.assertEqual(told_fault(PIERCED % 3, [2, 1, 3], UP), [2, 3, 0, 4, 0])
        self.assertEqual(told_fault(PIERCED % 3, [2, 3, 1], UP), [2, 3, 0, 2, 2])
        self.assertEqual(told_fault(PIERCED % 3, [3, 1, 2], RIGHT), [2, 3, 0, 2, 2])
        self.assertEqual(told_fault(PIERCED % 2, [2, 1, 3], UP), [0])

    def test_below_its_ends(self):
        # D goes from 2 up to 3, above the crank's bar.
        self.assertEqual(told_fault(PIERCED % 3, [1, 2, 3], UP), [0])
        self.assertEqual(told_fault(PIERCED % 3, [1, 3, 2], UP), [0])

    def test_point_of_one_piece_is_no_pin(self):
        # C lies on the second bar; F and R are of the ground alone, S of the crank's bar alone.
        self.assertEqual(told_fault(PIERCED % 2, [2, 1, 4], UP), [0])
        for more in ("pin F 4 1\n", "rider R B E 1/3 0\n", "rider S E C 2 0\n"):
            self.assertEqual(told_fault(PIERCED % 1 + more, [1, 3, 2], UP), [0])
            self.assertEqual(told_fault(PIERCED % 1 + more, [1, 2, 4], UP), [0])

    def test_rider_of_the_ground_as_a_pin(self):
        text = "pin A 0 0\npin B 4 -3\nrider E A B 2/5 4/5\ncrank C E 1\ndyad D A 5 B 6\n"
        self.assertEqual(told_fault(text, [3, 2, 1], RIGHT), [2, 3, 0, 2, 2])
        self.assertEqual(told_fault(text, [1, 3, 2], RIGHT), [0])

    def test_fifth_point_of_the_ground_as_a_pin(self):
        text = "pin A 0 0\npin B 4 -3\npin F 50 0\npin G 60 0\nrider E A B 2/5 4/5\ncrank C E 1\ndyad D A 5 B 6\n"
        self.assertEqual(told_fault(text, [3, 2, 1], RIGHT), [2, 3, 0, 4, 2])
        self.assertEqual(told_fault(text, [1, 3, 2], RIGHT), [0])

    def test_rider_of_a_bar_as_a_pin(self):
        # R is (5, 5), D (5, 10), so R lies on the second bar.
        text = "pin A 0 0\npin B 5 -5\ncrank C A 10\nrider R A C 1/2 1/2\ndyad D R 5 B 15\n"
        self.assertEqual(told_fault(text, [1, 3, 2], RIGHT), [2, 3, 0, 3, 2])
        self.assertEqual(told_fault(text, [3, 1, 2], RIGHT), [2, 3, 0, 3, 2])
        self.assertEqual(told_fault(text, [1, 2, 3], RIGHT), [0])

    def test_pin_of_three_pieces(self):
        # E is of the ground and of pieces 0 and 3, and lies on piece 2.
        text = PIERCED % 1 + "dyad F E 9 A 9\n"
        self.assertEqual(told_fault(text, [1, 2, 3, 4, 1], (0, 1, 2)), [2, 3, 0, 2, 2])
        self.assertEqual(told_fault(text, [4, 4, 3, 2, 1], (0, 1, 2)), [2, 3, 0, 2, 2])
        self.assertEqual(told_fault(text, [1, 4, 3, 2, 1], (0, 1, 2)), [0])

    def test_corner(self):
        self.assertEqual(told_fault(SPREAD % ("24 -3", "24 -3"), [1, 3, 2], RIGHT), [2, 3, 0, 1, 0])
        self.assertEqual(told_fault(SPREAD % ("24 -61/20", "24 -4"), [1, 3, 2], RIGHT), [0])
        self.assertEqual(told_fault(SPREAD % ("20 0", "0 0"), [1, 3, 2], RIGHT), [2, 3, 0, 0, 0])
        self.assertEqual(told_fault(SPREAD % ("399/20 0", "0 0"), [1, 3, 2], RIGHT), [0])

    def test_edge(self):
        self.assertEqual(told_fault(SPREAD % ("48 -6", "0 0"), [1, 3, 2], RIGHT), [2, 3, 0, 1, 0])
        self.assertEqual(told_fault(SPREAD % ("48 -119/20", "0 0"), [1, 3, 2], RIGHT), [0])
        self.assertEqual(told_fault(SPREAD % ("48 -121/20", "0 0"), [1, 3, 2], RIGHT), [2, 3, 0, 1, 0])

    def test_in_line_beyond(self):
        self.assertEqual(told_fault(SPREAD % ("21 0", "10 0"), [1, 3, 2], RIGHT), [2, 3, 0, 0, 0])
        self.assertEqual(told_fault(SPREAD % ("19 0", "10 0"), [1, 3, 2], RIGHT), [0])
        self.assertEqual(told_fault(SPREAD % ("-9 0", "10 0"), [1, 3, 2], RIGHT), [0])

    def test_inside(self):
        self.assertEqual(told_fault(SPREAD % ("30 1", "30 -1"), [1, 3, 2], RIGHT), [2, 3, 0, 0, 0])
        self.assertEqual(told_fault(SPREAD % ("30 -1", "30 -9"), [1, 3, 2], RIGHT), [2, 3, 0, 1, 0])
        self.assertEqual(told_fault(SPREAD % ("30 -1", "30 -3"), [1, 3, 2], RIGHT), [0])

    def test_where_two_diagonals_cross(self):
        text = "pin A 0 0\npin B 99 0\npin E -20 0\ncrank C E 40\ndyad D A 60 B 60\n"
        more = "rider R E C 1/2 1/2\nrider S E C 1/2 -1/2\n"
        self.assertEqual(told_fault(text, [1, 2, 3], RIGHT), [2, 3, 0, 0, 0])
        self.assertEqual(told_fault(text + more, [1, 2, 3], RIGHT), [2, 3, 0, 0, 0])
        self.assertEqual(told_fault(text + more, [2, 1, 3], RIGHT), [0])


class First(unittest.TestCase):
    def test_first_figure(self):
        text = UPRIGHT % 5
        self.assertEqual(told_fault(text, [1, 2, 1], UP, LEFT, RIGHT), [1, 3, 2, 0, 2])
        self.assertEqual(told_fault(text, [1, 2, 1], UP, RIGHT, RIGHT, UP), [1, 3, 1, 0, 2])
        self.assertEqual(told_fault(text, [1, 2, 1], UP, LEFT, UP, LEFT), [0])

    def test_earlier_figure_before_kind(self):
        # R lies on A to the right; S lies on the second bar upwards.
        text = SPREAD % ("20 0", "1 -24")
        self.assertEqual(told_fault(text, [2, 3, 2], LEFT), [0])
        self.assertEqual(told_fault(text, [2, 3, 2], LEFT, RIGHT, UP), [2, 3, 1, 0, 0])
        self.assertEqual(told_fault(text, [2, 3, 2], LEFT, UP, RIGHT), [1, 3, 1, 0, 2])

    def test_kind_1_before_kind_2(self):
        # A pin of line 0 goes through piece 0, and pieces 1 and 2 share a height.
        text = SPREAD % ("30 1", "30 -1")
        self.assertEqual(told_fault(text, [1, 3, 2], RIGHT), [2, 3, 0, 0, 0])
        self.assertEqual(told_fault(text, [1, 3, 3], RIGHT), [1, 3, 0, 1, 2])

    def test_of_kind_1_by_the_lesser_piece_then_the_greater(self):
        text = UPRIGHT % 5
        self.assertEqual(told_fault(text, [1, 1, 1], RIGHT), [1, 3, 0, 0, 1])
        self.assertEqual(told_fault(text, [1, 2, 1], RIGHT), [1, 3, 0, 0, 2])
        self.assertEqual(told_fault(text, [1, 2, 2], RIGHT), [1, 3, 0, 1, 2])
        # Pieces 0 and 4 meet to the right alone, 1 and 2 share a point.
        both = "pin A 0 0\npin B 4 -3\npin F -9 0\ncrank C A 5\ndyad D C 9 F 9\ndyad E A 5 B 6\n"
        self.assertEqual(told_fault(both, [1, 2, 2, 3, 1], RIGHT), [1, 3, 0, 0, 4])
        self.assertEqual(told_fault(both, [1, 2, 2, 3, 1], LEFT), [1, 3, 0, 1, 2])

    def test_of_kind_2_by_the_points_line_then_the_piece(self):
        # Piece 0 covers both A and B; with the heights changed A's pin ends below it.
        text = SPREAD % ("30 9", "30 -9")
        self.assertEqual(told_fault(text, [1, 2, 3], RIGHT), [2, 3, 0, 0, 0])
        self.assertEqual(told_fault(text, [1, 3, 2], RIGHT), [2, 3, 0, 0, 0])
        self.assertEqual(told_fault(text, [2, 1, 3], RIGHT), [2, 3, 0, 1, 0])
        # E's pin goes through pieces 2 and 3, whichever of them is lower.
        both = PIERCED % 1 + "pin H 7 0\ndyad F A 6 H 1\n"
        self.assertEqual(told_fault(both, [4, 3, 2, 1, 2], RIGHT), [2, 3, 0, 2, 2])
        self.assertEqual(told_fault(both, [4, 3, 1, 2, 1], RIGHT), [2, 3, 0, 2, 2])
        self.assertEqual(told_fault(both, [3, 3, 4, 2, 1], RIGHT), [2, 3, 0, 2, 3])


class SharedPoints(unittest.TestCase):
    def test_never_one_height(self):
        text = (
            "pin A 0 0\npin B 12 1\ncrank C A 4\nrider R A C 1/2 1\ndyad D C 11 B 10\n"
            "rider S D B 1/3 1/4\ndyad E R 20 S 21\n"
        )
        members = ({0, 2, 3}, {2, 4}, {1, 4, 5}, {3, 6}, {5, 6})
        figures = [(a, b, sides) for a, b in ((0, 1), (1, 1), (1, 0), (-7, 3), (98, 99)) for sides in range(4)]
        for lesser in range(5):
            for greater in range(lesser + 1, 5):
                if not members[lesser] & members[greater]:
                    continue
                heights = [2, 2, 2, 2, 2]
                for k in range(5):
                    if k not in (lesser, greater):
                        heights[k] = (1, 3, 4)[[m for m in range(5) if m not in (lesser, greater)].index(k)]
                for figure in figures:
                    self.assertEqual(told_fault(text, heights, figure), [1, 3, 0, lesser, greater])


if __name__ == "__main__":
    unittest.main()
