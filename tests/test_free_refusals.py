"""What first, count and least refuse, and in which order."""

import unittest

from helper import PIECES, PRINT, count, fault, first, least, take, told, told_of

CRANK = "pin A 0 0\ncrank C A 5\n"
DYAD = "pin A 0 0\npin B 12 0\ncrank C A 5\ndyad D C 10 B 9\n"
TWO_DYADS = DYAD + "dyad E C 10 B 9\n"
GOOD = (1, 1, 0)
NO_PLACE = (0, 0, 0)
HUGE = 2 ** 63 - 1
WRONG_HEIGHTS = (0, 5, 6, 64, HUGE - 1, HUGE)


def every_call(*figures):
    """The three calls with these figures and with every right H."""
    return [call(highest, *figures) for call in (first, count) for highest in (1, 2, 3, 4)] + [least(*figures)]


class Case(unittest.TestCase):
    def all_tell(self, text, figures, answer):
        self.assertEqual(told_of(text, *every_call(*figures)), [answer] * 9, (text, figures))

    def none_refuses(self, text, *figures):
        for answer in told_of(text, *every_call(*figures)):
            self.assertGreaterEqual(answer[0], 0, (text, figures))


class NoLinkage(Case):
    def test_comes_first(self):
        for figures in ([], [GOOD], [NO_PLACE], [(HUGE, -HUGE, HUGE)], [GOOD] * 5, [GOOD] * 32):
            self.assertEqual(told(*every_call(*figures)), [[-9]] * 9)
            for highest in WRONG_HEIGHTS:
                self.assertEqual(told(first(highest, *figures), count(highest, *figures)), [[-9], [-9]])

    def test_behind_texts_that_are_refused(self):
        crowded = CRANK + "rider R A C 1 1\nrider S A C 2 1\nrider T A C 3 1\n"
        given = told(take("pin"), take("x" * 1025), take(crowded), *every_call(GOOD))
        self.assertEqual(given, [[-6, 1, 3], [-2], [-7]] + [[-9]] * 9)


class Bounds(Case):
    def test_heights(self):
        for text in (CRANK, DYAD, TWO_DYADS):
            for highest in WRONG_HEIGHTS:
                for figures in ([], [GOOD], [GOOD] * 4):
                    given = told_of(text, first(highest, *figures), count(highest, *figures))
                    self.assertEqual(given, [[-1], [-1]], (text, highest, figures))

    def test_heights_before_figures(self):
        for highest in WRONG_HEIGHTS:
            for figures in ([NO_PLACE], [GOOD, NO_PLACE], [(1, 1, 2)], [(100, 1, 0)]):
                given = told_of(DYAD, first(highest, *figures), count(highest, *figures))
                self.assertEqual(given, [[-1], [-1]], (highest, figures))

    def test_figures(self):
        for text in (CRANK, DYAD, TWO_DYADS):
            self.none_refuses(text, *[GOOD] * 4)
            for number in (5, 6, 32):
                self.all_tell(text, [GOOD] * number, [-1])

    def test_too_many_figures_before_one_that_is_open(self):
        self.all_tell(DYAD, [NO_PLACE] * 4, [-3, 1, 0])
        self.all_tell(DYAD, [NO_PLACE] * 5, [-1])
        self.all_tell(DYAD, [GOOD] * 4 + [NO_PLACE], [-1])


class OpenFigures(Case):
    def test_which(self):
        for wrong in (NO_PLACE, (100, 1, 0), (1, -100, 0), (1, 1, 2), (1, 1, HUGE), (-HUGE, HUGE, 0)):
            self.all_tell(DYAD, [wrong], [-3, 1, 0])
            self.all_tell(DYAD, [wrong, GOOD, wrong], [-3, 1, 0])
            self.all_tell(DYAD, [GOOD, wrong], [-3, 1, 1])
            self.all_tell(DYAD, [GOOD, GOOD, wrong, wrong], [-3, 1, 2])
            self.all_tell(DYAD, [GOOD, GOOD, GOOD, wrong], [-3, 1, 3])

    def test_places(self):
        for a in (-99, 0, 99):
            for b in (-99, 0, 99):
                if a or b:
                    self.none_refuses(CRANK, (a, b, 0))
        for wrong in (-100, 100, -HUGE, HUGE):
            self.all_tell(CRANK, [(wrong, 1, 0)], [-3, 1, 0])
            self.all_tell(CRANK, [(1, wrong, 0)], [-3, 1, 0])

    def test_sides(self):
        self.all_tell(CRANK, [(1, 1, 1)], [-3, 1, 0])
        self.none_refuses(DYAD, (1, 1, 1))
        self.all_tell(DYAD, [(1, 1, 2)], [-3, 1, 0])
        self.none_refuses(TWO_DYADS, (1, 1, 3))
        self.all_tell(TWO_DYADS, [(1, 1, 4)], [-3, 1, 0])

    def test_circles(self):
        # To the right C is 7 away from B: 4 and 3 touch there, 4 and 2 don't meet. Upwards it is 13 away.
        text = "pin A 0 0\npin B 12 0\ncrank C A 5\ndyad D C 4 B %d\n"
        self.none_refuses(text % 3, (0, 1, 0), (0, 1, 1))
        self.all_tell(text % 2, [(0, 1, 0)], [-3, 1, 0])
        self.all_tell(text % 3, [(0, 1, 0), (0, 1, 1), (1, 1, 0)], [-3, 1, 2])
        # Here P and Q are at one point.
        self.all_tell("pin A 0 0\npin B 5 0\ncrank C A 5\ndyad D C 3 B 3\n", [(1, 2, 0), (0, 1, 0)], [-3, 1, 1])


class Unchanged(Case):
    def test_by_refusals(self):
        calls = [PRINT, PIECES, fault([1, 2, 1], GOOD)] + every_call(GOOD)
        refused = [first(0), count(5, GOOD), least(*[GOOD] * 5), first(2, NO_PLACE), count(3, GOOD, NO_PLACE)]
        refused += [least(NO_PLACE), take("pin")]
        given = told_of(DYAD, *calls, *refused, *calls)
        self.assertEqual(given[:12], given[19:])
        self.assertEqual(given[12:19], [[-1], [-1], [-1], [-3, 1, 0], [-3, 1, 1], [-3, 1, 0], [-6, 1, 3]])

    def test_by_what_is_told(self):
        calls = [PRINT, PIECES] + every_call(GOOD)
        given = told_of(DYAD, *calls, *calls)
        self.assertEqual(given[:11], given[11:])

    def test_another_linkage_takes_its_place(self):
        given = told(take(CRANK), count(4, GOOD), take(DYAD), count(4, GOOD), take(CRANK), count(4, GOOD))
        self.assertEqual(given, [[2], [4], [4], [36], [2], [4]])


if __name__ == "__main__":
    unittest.main()
