"""What fault refuses, and in which order."""

import unittest

from helper import PRINT, fault, take, told, told_fault

CRANK = "pin A 0 0\ncrank C A 5\n"
DYAD = "pin A 0 0\npin B 12 0\ncrank C A 5\ndyad D C 10 B 9\n"
FREE = [1, 2, 1]
HUGE = 2 ** 63 - 1


class Order(unittest.TestCase):
    def test_no_linkage_first(self):
        for call in (fault([]), fault([1]), fault([0], (0, 0, 9)), fault([], *[(0, 0, 0)] * 32)):
            self.assertEqual(told(call), [[-9]])
        self.assertEqual(told(take("pin"), fault([1], (1, 1, 0)))[1], [-9])

    def test_heights_before_figures(self):
        self.assertEqual(told_fault(DYAD, [1, 2], (0, 0, 0)), [-1])
        self.assertEqual(told_fault(DYAD, [1, 2, 5], (0, 0, 0)), [-1])
        self.assertEqual(told_fault(DYAD, FREE, *[(0, 0, 0)] * 5), [-1])

    def test_open_figure_before_a_fault(self):
        self.assertEqual(told_fault(DYAD, [1, 1, 1], (1, 1, 0), (1, 1, 2)), [-3, 1, 1])

    def test_refusal_changes_nothing(self):
        given = told(take(DYAD), PRINT, fault([0]), fault(FREE, (0, 0, 0)), PRINT, fault(FREE, (1, 1, 0)))
        self.assertEqual(given[2:4], [[-1], [-3, 1, 0]])
        self.assertEqual(given[1], given[4])
        self.assertEqual(given[5], [0])


class Heights(unittest.TestCase):
    def test_how_many(self):
        for heights in ([], [1], [1, 2], [1, 2, 1, 2], [1] * 64):
            self.assertEqual(told_fault(DYAD, heights, (1, 1, 0)), [-1])
            self.assertEqual(told_fault(DYAD, heights), [-1])
        self.assertEqual(told_fault(CRANK, [], (1, 1, 0)), [-1])

    def test_how_high(self):
        for wrong in (0, 5, HUGE):
            for heights in ([wrong, 2, 1], [1, wrong, 1], [1, 2, wrong]):
                self.assertEqual(told_fault(DYAD, heights, (1, 1, 0)), [-1])
        for height in (1, 2, 3, 4):
            self.assertEqual(told_fault(CRANK, [height], (1, 1, 0)), [0])

    def test_how_many_figures(self):
        self.assertEqual(told_fault(DYAD, FREE, *[(1, 1, 0)] * 4), [0])
        self.assertEqual(told_fault(DYAD, FREE, *[(1, 1, 0)] * 5), [-1])
        self.assertEqual(told_fault(DYAD, FREE, *[(1, 1, 0)] * 32), [-1])

    def test_empty_row(self):
        self.assertEqual(told_fault(DYAD, FREE), [0])
        self.assertEqual(told_fault(DYAD, [1, 1, 1]), [0])


class Places(unittest.TestCase):
    def test_edges(self):
        for a in (-99, 0, 99):
            for b in (-99, 0, 99):
                self.assertEqual(told_fault(CRANK, [1], (a, b, 0)), [0] if a or b else [-3, 1, 0])

    def test_beyond(self):
        for wrong in (-100, 100, -HUGE, HUGE):
            for figure in ((wrong, 1, 0), (1, wrong, 0), (wrong, 0, 0), (0, wrong, 0), (wrong, wrong, 0)):
                self.assertEqual(told_fault(CRANK, [1], figure), [-3, 1, 0])

    def test_which_figure(self):
        good = (1, 1, 0)
        for wrong in ((0, 0, 0), (100, 1, 0), (1, 1, 2)):
            self.assertEqual(told_fault(DYAD, FREE, wrong, good, wrong), [-3, 1, 0])
            self.assertEqual(told_fault(DYAD, FREE, good, wrong, wrong), [-3, 1, 1])
            self.assertEqual(told_fault(DYAD, FREE, good, good, good, wrong), [-3, 1, 3])


class Sides(unittest.TestCase):
    def test_bits_above_the_dyads(self):
        both = DYAD + "dyad E C 10 B 9\n"
        for sides in range(5):
            self.assertEqual(told_fault(CRANK, [1], (1, 1, sides))[0], 0 if sides < 1 else -3)
            self.assertEqual(told_fault(DYAD, [1, 2, 3], (1, 1, sides))[0] == -3, sides >= 2)
            self.assertEqual(told_fault(both, [1, 2, 3, 2, 3], (1, 1, sides))[0] == -3, sides >= 4)
        for sides in (HUGE, 2 ** 62, 4, 8):
            self.assertEqual(told_fault(DYAD, FREE, (1, 1, sides)), [-3, 1, 0])


class Circles(unittest.TestCase):
    def opens(self, text, *figures):
        pieces = 1 + 2 * text.count("dyad")
        for figure in figures:
            self.assertEqual(told_fault(text, [1] * pieces, figure), [-3, 1, 0], (text, figure))

    def closes(self, text, *figures):
        pieces = 1 + 2 * text.count("dyad")
        for figure in figures:
            self.assertGreaterEqual(told_fault(text, [1] * pieces, figure)[0], 0, (text, figure))

    def test_from_outside(self):
        # At (0, 1) the crank's pin is 7 away from B, at (1, 0) 17.
        text = "pin A 0 0\npin B 12 0\ncrank C A 5\ndyad D C %d B %d\n"
        self.closes(text % (4, 3), (0, 1, 0), (0, 1, 1))
        self.opens(text % (4, 2), (0, 1, 0), (0, 1, 1))
        self.closes(text % (9, 8), (1, 0, 0), (1, 0, 1))
        self.opens(text % (9, 7), (1, 0, 0), (1, 0, 1))

    def test_from_inside(self):
        text = "pin A 0 0\npin B 12 0\ncrank C A 5\ndyad D C %d B %d\n"
        self.closes(text % (10, 3), (0, 1, 0), (0, 1, 1))
        self.opens(text % (11, 3), (0, 1, 0), (0, 1, 1))
        self.closes(text % (3, 10), (0, 1, 0), (0, 1, 1))
        self.opens(text % (3, 11), (0, 1, 0), (0, 1, 1))

    def test_distance_that_is_no_fraction(self):
        # The crank's pin is the root of 169 + 1 away from B.
        text = "pin A 0 0\npin B 13 0\ncrank C A 1\ndyad D C %d B %d\n"
        self.opens(text % (6, 7), (1, 1, 0))
        self.closes(text % (7, 7), (1, 1, 0))
        self.opens(text % (20, 6), (1, 1, 0))
        self.closes(text % (20, 7), (1, 1, 0))

    def test_p_and_q_at_one_point(self):
        text = "pin A 0 0\npin B 5 0\ncrank C A 5\ndyad D C 3 B %d\n"
        self.opens(text % 3, (0, 1, 0), (0, 1, 1), (0, -7, 0))
        self.opens(text % 4, (0, 1, 0), (0, 1, 1))
        self.closes(text % 3, (1, 99, 0), (-1, 99, 1))

    def test_p_and_q_at_one_point_behind_a_dyad(self):
        # The rider lies on the dyad's pin, whose numbers aren't fractions.
        text = "pin A 0 0\npin B 10 0\ncrank C A 1\ndyad D A 7 B 8\nrider R A D 1 0\ndyad E D 3 R 3\n"
        self.opens(text, (1, 1, 0), (1, 1, 1), (1, 1, 2), (1, 1, 3))

    def test_second_dyad_held_by_the_first(self):
        # D is 7 away from A, whatever its own numbers.
        text = "pin A 0 0\npin B 10 0\ncrank C A 1\ndyad D A 7 B 8\ndyad E D %d A %d\n"
        every = [(1, 1, sides) for sides in range(4)]
        self.closes(text % (3, 4), *every)
        self.opens(text % (3, 3), *every)
        self.closes(text % (10, 3), *every)
        self.opens(text % (11, 3), *every)
        self.closes(text % (3, 10), *every)
        self.opens(text % (3, 11), *every)

    def test_one_open_dyad_of_two(self):
        text = "pin A 0 0\npin B 10 0\ncrank C A 1\ndyad D A %d B 4\ndyad E A %d B 4\n"
        self.closes(text % (7, 7), (1, 1, 0), (1, 1, 3))
        self.opens(text % (7, 5), (1, 1, 0), (1, 1, 3))
        self.opens(text % (5, 7), (1, 1, 0), (1, 1, 3))


if __name__ == "__main__":
    unittest.main()
