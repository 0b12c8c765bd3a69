"""Points whose numbers are roots, and roots of roots: told exactly, however near they lie."""

import unittest

from helper import told_fault

UP = (1, 1)


class SamePointToldInTwoWays(unittest.TestCase):
    def test_two_dyads_side_by_side(self):
        # E is held by D's bars swapped: at opposite sides both are one point.
        text = "pin A 0 0\npin B 7 2\ncrank C A 1\ndyad D A 5 B 6\ndyad E B 6 A 5\n"
        heights = [3, 1, 3, 2, 4]
        for sides in (1, 2):
            self.assertEqual(told_fault(text, heights, UP + (sides,)), [2, 3, 0, 3, 3])
        for sides in (0, 3):
            self.assertEqual(told_fault(text, heights, UP + (sides,)), [0])

    def test_second_dyad_back_on_a_pin(self):
        # D is 5 away from B, A is 7: so on one side F lies on B, on the other on B's mirror image.
        # The crank's bar goes up from (x, -2) to (x, 2).
        text = "pin A 0 0\npin B 7 0\npin E 3 9\npin G %d -2\ncrank C G 4\ndyad D E 8 B 5\ndyad F D 5 A 7\n"
        on_the_bar = text % 7
        beside_it = text % 8
        for sides in (0, 1):
            figure = UP + (sides,)
            self.assertEqual(told_fault(on_the_bar, [1, 2, 3, 4, 1], figure), [1, 3, 0, 0, 4])
            self.assertEqual(told_fault(on_the_bar, [1, 2, 3, 1, 4], figure), [1, 3, 0, 0, 3])
            self.assertEqual(told_fault(on_the_bar, [2, 3, 1, 4, 1], figure), [1, 3, 0, 2, 4])
            self.assertEqual(told_fault(beside_it, [1, 2, 3, 4, 1], figure), [2, 3, 0, 1, 4])
            self.assertEqual(told_fault(beside_it, [1, 2, 3, 4, 4], figure), [1, 3, 0, 3, 4])
        for sides in (2, 3):
            figure = UP + (sides,)
            self.assertEqual(told_fault(on_the_bar, [2, 3, 1, 4, 1], figure), [0])
            self.assertEqual(told_fault(beside_it, [1, 2, 3, 4, 1], figure), [0])

    def test_second_dyad_that_touches(self):
        # D is 7 away from A; E lies in line with both, between them, behind A or behind D.
        text = "pin A 0 0\npin B 10 0\ncrank C A 1\ndyad D A 7 B 8\ndyad E D %d A %d\n"
        for sides in range(4):
            figure = UP + (sides,)
            self.assertEqual(told_fault(text % (3, 4), [4, 2, 4, 1, 3], figure), [2, 3, 0, 4, 1])
            self.assertEqual(told_fault(text % (4, 4), [4, 2, 4, 1, 3], figure), [0])
            self.assertEqual(told_fault(text % (9, 2), [4, 2, 4, 1, 3], figure), [2, 3, 0, 0, 3])
            self.assertEqual(told_fault(text % (2, 9), [4, 2, 4, 1, 3], figure), [2, 3, 0, 3, 4])

    def test_roots_that_are_whole(self):
        # D is (4, 3), F (8, 6) or (8, 0), where the crank's pin lies.
        text = "pin A 0 0\npin B 4 -3\npin G 8 -5\npin H 12 3\ncrank C G %d\ndyad D A 5 B 6\ndyad F D 5 H 5\n"
        for heights, fault in (([1, 2, 3, 4, 1], [1, 3, 0, 0, 4]), ([1, 2, 3, 1, 4], [1, 3, 0, 0, 3])):
            self.assertEqual(told_fault(text % 5, heights, (1, 1, 2)), fault)
            self.assertEqual(told_fault(text % 4, heights, (1, 1, 2)), [0])
            self.assertEqual(told_fault(text % 5, heights, (1, 1, 0)), [0])
            self.assertEqual(told_fault(text % 11, heights, (1, 1, 0)), fault)

    def test_rider_on_a_dyads_pin(self):
        # R and S lie on D, each told from its own bar; the second dyad is held by R.
        text = "pin A 0 0\npin B 10 1\ncrank C A 1\ndyad D A 7 B 8\nrider R A D 1 0\nrider S B D 1 0\ndyad E R 9 A 9\n"
        # R's pin goes through piece 2, which covers it as its own end D or as S.
        for sides in range(4):
            self.assertEqual(told_fault(text, [3, 1, 2, 3, 4], UP + (sides,)), [2, 3, 0, 4, 2])


class VeryNear(unittest.TestCase):
    HEIGHTS = [1, 2, 3, 4, 1]
    TEXT = "pin A 0 0\npin B 10 0\npin E 31 -4\npin G %s\ncrank C G %d\ndyad D A 7 B 8\ndyad F D %d E %d\n"

    def test_apart(self):
        # F is less than 10 to the -12 away from the crank's bar, on E's side of it.
        for centre, reach, p, q, figure in (
            ("33 -267", 141, 231, 233, (62, 15, 2)),
            ("814 -260", 834, 128, 120, (47, 4, 2)),
            ("-190 -381", 330, 324, 307, (5, 38, 2)),
            ("270 -127", 204, 214, 195, (-53, 9, 2)),
            ("-507 7", 553, 84, 74, (-5, 63, 2)),
        ):
            self.assertEqual(told_fault(self.TEXT % (centre, reach, p, q), self.HEIGHTS, figure), [0])

    def test_meeting(self):
        # F is less than 10 to the -10 away from the crank's bar, beyond it.
        for centre, reach, figure in (("404 52", 515, (-36, 5, 2)), ("-867 -308", 845, (5, 36, 2))):
            text = self.TEXT % (centre, reach, 117, 130)
            self.assertEqual(told_fault(text, self.HEIGHTS, figure), [1, 3, 0, 0, 4])


class Mirrored(unittest.TestCase):
    """A linkage and its mirror image are told the same at the same figures."""

    TEXTS = (
        "pin A 0 0\npin B 4 -3\ncrank C A 5\nrider R A C 1/2 1/3\ndyad D A 5 B 6\nrider S B D 1/2 -1/4\n",
        "pin A 0 0\npin B 7 1\nrider G A B 1/2 1/5\ncrank C G 3\ndyad D C 3 B 3\nrider R C D 1/3 1/2\ndyad E R 6 A 7\n",
        "pin A 0 0\npin B 7 0\npin E 3 9\ncrank C A 4\ndyad D E 8 B 5\ndyad F D 5 A 7\nrider R D F 1/2 1/20\n",
    )

    def mirrored(self, text):
        lines = []
        for line in text.splitlines():
            words = line.split(" ")
            if words[0] in ("pin", "rider"):
                last = words[-1]
                words[-1] = last if last == "0" else last[1:] if last[0] == "-" else "-" + last
            lines.append(" ".join(words) + "\n")
        return "".join(lines)

    def test_told_the_same(self):
        kinds = set()
        for text in self.TEXTS:
            dyads = text.count("dyad")
            for a, b in ((0, 1), (1, 3), (1, 1), (2, 1), (1, 0), (-4, 7), (-99, 98)):
                for sides in range(2 ** dyads):
                    for heights in ([1, 2, 1, 3, 4], [3, 1, 2, 4, 2], [4, 2, 4, 1, 3], [1, 1, 2, 3, 3]):
                        mirror = (-a, b, 2 ** dyads - 1 - sides)
                        stack = heights[:1 + 2 * dyads]
                        answer = told_fault(text, stack, (a, b, sides))
                        self.assertEqual(told_fault(self.mirrored(text), stack, mirror), answer)
                        kinds.add(answer[0])
        self.assertEqual(kinds, {-3, 0, 1, 2})


if __name__ == "__main__":
    unittest.main()
