"""What print and pieces tell."""

import unittest

from helper import PIECES, PRINT, bytes_of, take, told

EVERY_LINE = """pin A -999 0
pin B12 9 -7
rider G A B12 1/2 -3/20
crank C9 G 3
rider H C9 G -5 0
dyad D C9 8 B12 7
rider K D C9 2 1
rider L1 B12 D 0 -1
rider M D B12 -7/3 1/2
dyad E H 30 D 999
rider N H E 1 0
rider O D E 1/19 0
"""


class Print(unittest.TestCase):
    def test_no_linkage(self):
        self.assertEqual(told(PRINT, take("pin"), PRINT), [[-9], [-6, 1, 3], [-9]])

    def test_text(self):
        for text in ("pin A 0 0\ncrank B A 1\n", EVERY_LINE):
            self.assertEqual(told(take(text), PRINT)[1], [len(text), len(text)] + bytes_of(text))

    def test_changes_nothing(self):
        given = told(take(EVERY_LINE), PRINT, PIECES, PRINT, PIECES)
        self.assertEqual(given[1:3], given[3:5])


class Pieces(unittest.TestCase):
    def lists(self, text):
        """The pieces' lists, with how many there are told right ahead."""
        numbers = told(take(text), PIECES)[1]
        found = []
        rest = numbers[1:]
        while rest:
            found.append(rest[1:rest[0] + 1])
            rest = rest[rest[0] + 1:]
        self.assertEqual(numbers[0], len(found))
        return found

    def test_no_linkage(self):
        self.assertEqual(told(PIECES, take("pin"), PIECES), [[-9], [-6, 1, 3], [-9]])

    def test_crank_alone(self):
        self.assertEqual(self.lists("pin A 0 0\ncrank B A 1\n"), [[0, 1]])

    def test_riders_of_each_piece(self):
        self.assertEqual(self.lists(EVERY_LINE), [[2, 3, 4], [3, 5, 6], [1, 5, 7, 8], [4, 9, 10], [5, 9, 11]])

    def test_order_of_lines(self):
        text = "pin A 0 0\npin B 9 0\ndyad D B 8 A 7\ncrank C A 3\ndyad E C 2 A 3\n"
        self.assertEqual(self.lists(text), [[1, 2], [0, 2], [0, 3], [3, 4], [0, 4]])

    def test_riders_of_the_ground_are_of_no_piece_told(self):
        text = "pin A 0 0\npin B 9 0\nrider R A B 1 1\nrider S B A 1 1\ncrank C A 3\n"
        self.assertEqual(self.lists(text), [[0, 4]])

    def test_crowded_ground(self):
        pins = "".join("pin %s %d 9\n" % (name, x) for x, name in enumerate("CDEFGHIJKL"))
        self.assertEqual(self.lists("pin A 0 0\ncrank B A 5\n" + pins), [[0, 1]])
        riders = "rider C A B 1 1\nrider D A B 2 1\nrider E A B 1/2 0\n"
        self.assertEqual(self.lists("pin A 0 0\npin B 9 9\n" + riders + "crank F E 5\n"), [[4, 5]])

    def test_riders_in_order(self):
        text = "pin A 0 0\npin B 9 0\ncrank C A 3\ndyad D C 8 B 7\n"
        riders = "rider R D B 1 1\nrider S C A 1 1\nrider T B D 2 1\nrider U A C 2 1\n"
        self.assertEqual(self.lists(text + riders), [[0, 2, 5, 7], [2, 3], [1, 3, 4, 6]])


if __name__ == "__main__":
    unittest.main()
