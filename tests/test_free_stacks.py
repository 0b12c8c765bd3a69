"""first, count and least, in figures whose points are plain to see.

At the place (0, 1) the way from the crank's centre to its pin goes to the right, at (1, 1)
upwards, at (1, 0) to the left, at (1, 3) by 4 to the right for each 3 upwards.
"""

import unittest

from helper import count, fault, first, least, told_of

RIGHT = (0, 1, 0)
UP = (1, 1, 0)
LEFT = (1, 0, 0)

CRANK = "pin A 0 0\ncrank C A 5\n"
# D is (4, 3); the dyad's second bar goes from (4, -3) up to there. Pieces: AC, AD, BD.
UPRIGHT = "pin A 0 0\npin B 4 -3\ncrank C A 5\ndyad D A 5 B 6\n"
# The same dyad, and a crank's bar that covers A, or A and B. Pieces: ECRS, AD, BD.
SPREAD = "pin A 0 0\npin B 4 -3\npin E -20 0\ncrank C E 1\ndyad D A 5 B 6\nrider R E C 30 %d\nrider S E C 30 -%d\n"
# The same dyad; E lies on its second bar. Pieces: EC, AD, BD.
PIERCED = "pin A 0 0\npin B 4 -3\npin E 4 0\ncrank C E 1\ndyad D A 5 B 6\n"
# To the right C lies on BD, which reaches from (3, -4) over C (3, 0) up to D (3, 4). Pieces: AC, BD, CD.
ON_THE_BAR = "pin A 0 0\npin B 3 -4\ncrank C A 3\ndyad D B 8 C 4\n"
# To the right EC covers A, and AD, from (4, 0) to (-1, 0), covers E: each would have to lie below the other.
ENTANGLED = "pin A 4 0\npin B -1 6\npin E 0 0\ncrank C E 5\ndyad D A 5 B 6\n"
# To the right and with sides 1 the first four pieces meet each other: AC, CD and AD make a triangle,
# AF crosses CD. F is (4, 3); BF, from (8, 0) to there, meets AF alone. Pieces: AC, CD, AD, AF, BF.
FOUR_LAYERS = "pin A 0 0\npin B 8 0\ncrank C A 3\ndyad D C 5 A 4\ndyad F A 5 B 5\n"
# Such a triangle too, with sides 0 or 2; F is (3, -4) on CD, and BF covers A on its way there: all five meet.
FIVE_LAYERS = "pin A 0 0\npin B -3 4\ncrank C A 6\ndyad D C 10 A 8\ndyad F A 5 B 10\n"
# Two dyads far from one another and from the crank. Pieces: AC, ED, FD, GH, KH.
FAR_APART = (
    "pin A 0 0\ncrank C A 5\npin E 100 0\npin F 110 0\npin G 200 0\npin K 210 0\n"
    "dyad D E 8 F 8\ndyad H G 8 K 8\n"
)


class Case(unittest.TestCase):
    def tells(self, text, figures, firsts, counts, fewest):
        """Whether these are told with 1, 2, 3 and 4 heights; of an empty stack, that there's none."""
        calls = [first(highest, *figures) for highest in (1, 2, 3, 4)]
        calls += [count(highest, *figures) for highest in (1, 2, 3, 4)]
        expected = [[1, len(stack)] + stack if stack else [0] for stack in firsts]
        expected += [[number] for number in counts]
        self.assertEqual(told_of(text, *calls, least(*figures)), expected + [[fewest]])


class EmptyRow(Case):
    def test_each_stack_is_free(self):
        self.tells(CRANK, [], [[1]] * 4, [1, 2, 3, 4], 1)
        self.tells(UPRIGHT, [], [[1] * 3] * 4, [1, 8, 27, 64], 1)
        self.tells(FOUR_LAYERS, [], [[1] * 5] * 4, [1, 32, 243, 1024], 1)

    def test_each_where_no_figure_has_one(self):
        self.tells(ENTANGLED, [], [[1] * 3] * 4, [1, 8, 27, 64], 1)
        self.tells(FIVE_LAYERS, [], [[1] * 5] * 4, [1, 32, 243, 1024], 1)


class OnePiece(Case):
    def test_every_height(self):
        for figures in ([UP], [UP, RIGHT], [UP, RIGHT, LEFT], [UP, RIGHT, LEFT, (-7, 3, 0)]):
            self.tells(CRANK, figures, [[1]] * 4, [1, 2, 3, 4], 1)

    def test_riders(self):
        self.tells(CRANK + "rider R A C 1/2 1\nrider S A C 9 -9\n", [UP, LEFT], [[1]] * 4, [1, 2, 3, 4], 1)

    def test_beside_other_pins(self):
        self.tells(CRANK + "pin B 2 0\npin E 0 2\nrider R B E 0 0\n", [RIGHT, UP], [[1]] * 4, [1, 2, 3, 4], 1)


class ThreePieces(Case):
    def test_two_that_share_no_point(self):
        two = ([], [1, 2, 1], [1, 2, 1], [1, 2, 1]), (0, 2, 12, 36), 2
        three = ([], [], [1, 2, 3], [1, 2, 3]), (0, 0, 6, 24), 3
        self.tells(UPRIGHT, [UP], *two)
        self.tells(UPRIGHT, [RIGHT], *three)

    def test_rows_of_several_figures(self):
        two = ([], [1, 2, 1], [1, 2, 1], [1, 2, 1]), (0, 2, 12, 36), 2
        three = ([], [], [1, 2, 3], [1, 2, 3]), (0, 0, 6, 24), 3
        for row in ([UP], [UP, LEFT], [UP, LEFT, (-1, 1, 0)], [UP, LEFT, (-1, 1, 0), (0, 1, 1)]):
            self.tells(UPRIGHT, row, *two)
            for place in range(len(row)):
                self.tells(UPRIGHT, row[:place] + [RIGHT] + row[place + 1:], *three)

    def test_figure_told_twice(self):
        for row in ([UP], [RIGHT], [UP, RIGHT], [RIGHT, UP]):
            once = told_of(UPRIGHT, first(3, *row), count(4, *row), least(*row))
            for more in (row + row[:1], row[:1] + row, row * 2):
                self.assertEqual(told_of(UPRIGHT, first(3, *more), count(4, *more), least(*more)), once)

    def test_side(self):
        self.tells(UPRIGHT, [(0, 1, 1)], ([], [1, 2, 1], [1, 2, 1], [1, 2, 1]), (0, 2, 12, 36), 2)

    def test_pin_up_from_the_ground(self):
        # A's pin mustn't go through piece 0: piece 1 lies below that. With B's, piece 2 too.
        self.tells(SPREAD % (1, 1), [RIGHT], ([], [], [2, 1, 3], [2, 1, 3]), (0, 0, 3, 12), 3)
        self.tells(SPREAD % (9, 9), [RIGHT], ([], [], [3, 1, 2], [3, 1, 2]), (0, 0, 2, 8), 3)
        self.tells(SPREAD % (9, 9), [LEFT], ([], [1, 1, 2], [1, 1, 2], [1, 1, 2]), (0, 4, 18, 48), 2)

    def test_stack_that_a_pin_alone_forbids(self):
        self.assertEqual(told_of(PIERCED, fault([2, 2, 1], RIGHT)), [[2, 3, 0, 2, 2]])
        self.tells(PIERCED, [RIGHT], ([], [1, 1, 2], [1, 1, 2], [1, 1, 2]), (0, 1, 6, 18), 2)

    def test_pin_between_two_pieces(self):
        self.assertEqual(told_of(ON_THE_BAR, fault([1, 2, 3], RIGHT)), [[2, 3, 0, 2, 1]])
        self.tells(ON_THE_BAR, [RIGHT], ([], [], [1, 3, 2], [1, 3, 2]), (0, 0, 4, 16), 3)

    def test_pins_and_pieces_of_several_figures(self):
        # Turned upwards BD passes C on one side or the other: it crosses AC or keeps clear of it.
        crosses = (1, 3, 0)
        clear = (1, 3, 1)
        self.tells(ON_THE_BAR, [clear], ([], [1, 1, 2], [1, 1, 2], [1, 1, 2]), (0, 2, 12, 36), 2)
        self.tells(ON_THE_BAR, [clear, crosses], ([], [], [1, 2, 3], [1, 2, 3]), (0, 0, 6, 24), 3)
        for row in ([clear, RIGHT], [RIGHT, clear], [crosses, RIGHT, clear], [clear, crosses, clear, RIGHT]):
            self.tells(ON_THE_BAR, row, ([], [], [1, 3, 2], [1, 3, 2]), (0, 0, 4, 16), 3)

    def test_what_each_figure_alone_allows(self):
        # Upwards AD covers E, and EC lies below it; to the right and with sides 1 EC covers A, and lies above.
        self.tells(ENTANGLED, [UP], ([], [1, 2, 1], [1, 2, 1], [1, 2, 1]), (0, 1, 6, 18), 2)
        self.tells(ENTANGLED, [(0, 1, 1)], ([], [2, 1, 2], [2, 1, 2], [2, 1, 2]), (0, 1, 6, 18), 2)
        self.tells(ENTANGLED, [UP, (0, 1, 1)], ([], [], [], []), (0, 0, 0, 0), 0)

    def test_none(self):
        self.tells(ENTANGLED, [RIGHT], ([], [], [], []), (0, 0, 0, 0), 0)
        self.tells(ENTANGLED, [UP, (0, 1, 1), RIGHT, LEFT], ([], [], [], []), (0, 0, 0, 0), 0)


class FivePieces(Case):
    def test_two_layers(self):
        stack = [1, 1, 2, 1, 2]
        self.tells(FAR_APART, [UP, (1, 3, 3)], ([], stack, stack, stack), (0, 8, 108, 576), 2)

    def test_four_layers(self):
        stack = [1, 2, 3, 4, 1]
        self.tells(FOUR_LAYERS, [(0, 1, 1)], ([], [], [], stack), (0, 0, 0, 72), 4)

    def test_more_layers_than_there_may_be(self):
        for sides in (0, 2):
            self.tells(FIVE_LAYERS, [(0, 1, sides)], ([], [], [], []), (0, 0, 0, 0), 0)

    def test_dyads_before_the_crank(self):
        # The pieces of FAR_APART in another order: ED, FD, AC, GH, KH.
        lines = FAR_APART.split("\n")
        text = "\n".join([lines[0]] + lines[2:7] + [lines[1], lines[7], ""])
        stack = [1, 2, 1, 1, 2]
        self.tells(text, [UP], ([], stack, stack, stack), (0, 8, 108, 576), 2)


if __name__ == "__main__":
    unittest.main()
