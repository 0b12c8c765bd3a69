"""What is promised of fault, first, count and least together, for linkages of every make."""

import itertools
import unittest

from helper import count, fault, first, least, told_of
from test_second_reckoning import PLACES, Maker, pieces_of, text_of

HEIGHTS = (1, 2, 3, 4)
MOST_CALLS = 299


class Sample:
    """A linkage, and figures of it that close."""

    def __init__(self, seed):
        self.maker = Maker(seed)
        self.rows = self.maker.make()
        self.text = text_of(self.rows)
        self.ground, self.pieces = pieces_of(self.rows)
        self.figures = []
        for figure in self.some_figures(12):
            if told_of(self.text, least(figure))[0][0] != -3 and figure not in self.figures:
                self.figures.append(figure)

    def some_figures(self, number):
        source = self.maker.source
        places = PLACES + ((source.randint(-99, 99), source.randint(1, 99)),)
        sides = range(1 << len(self.pieces) // 2)
        return [source.choice(places) + (source.choice(sides),) for _ in range(number)]

    def row(self, size):
        return self.figures[:size]

    def stacks(self, highest=4):
        return itertools.product(range(1, highest + 1), repeat=len(self.pieces))

    def free_by_fault(self, row):
        """Every stack for which fault answers 0, in order."""
        stacks = list(self.stacks())
        free = []
        for start in range(0, len(stacks), MOST_CALLS):
            asked = stacks[start:start + MOST_CALLS]
            told = told_of(self.text, *[fault(stack, *row) for stack in asked])
            free.extend(stack for stack, answer in zip(asked, told) if answer == [0])
        return free

    def told(self, row):
        calls = [first(highest, *row) for highest in HEIGHTS] + [count(highest, *row) for highest in HEIGHTS]
        return told_of(self.text, *calls, least(*row))

    def shared(self):
        """Each two pieces that share a point."""
        pairs = itertools.combinations(range(len(self.pieces)), 2)
        return [(m, n) for m, n in pairs if set(self.pieces[m]) & set(self.pieces[n])]


def expected_of(free):
    """What first, count and least tell if these stacks are the free ones."""
    within = [[stack for stack in free if max(stack) <= highest] for highest in HEIGHTS]
    firsts = [[1, len(stacks[0])] + list(stacks[0]) if stacks else [0] for stacks in within]
    counts = [[len(stacks)] for stacks in within]
    return firsts + counts + [[min([highest for highest, stacks in zip(HEIGHTS, within) if stacks], default=0)]]


class AgainstFault(unittest.TestCase):
    def check(self, seeds, pieces, sizes):
        """What least told, for each linkage with that many pieces and each size of a row."""
        fewest = []
        for seed in seeds:
            sample = Sample(seed)
            if len(sample.pieces) != pieces:
                continue
            for size in sizes:
                if size > len(sample.figures):
                    continue
                row = sample.row(size)
                told = sample.told(row)
                self.assertEqual(told, expected_of(sample.free_by_fault(row)), (sample.text, row))
                fewest.append(told[-1][0])
        return fewest

    def test_one_piece(self):
        self.assertGreater(self.check(range(2000, 2060), 1, (0, 1, 4)).count(1), 4)

    def test_three_pieces(self):
        fewest = self.check(range(2060, 2230), 3, (0, 1, 2, 3, 4))
        for number in (0, 1, 2, 3):
            self.assertGreater(fewest.count(number), 3, number)

    def test_five_pieces(self):
        # Of linkages made at random, some with few free stacks and some with many.
        fewest = self.check((2016, 2033, 2041, 2162, 2281), 5, (1, 2)) + self.check((2500, 2176), 5, (4,))
        for number in (0, 2, 3, 4):
            self.assertIn(number, fewest)


class FirstAndCount(unittest.TestCase):
    def test_more_heights_no_fewer(self):
        for seed in range(1300, 1340):
            sample = Sample(seed)
            for size in range(len(sample.row(4)) + 1):
                told = sample.told(sample.row(size))
                counts = [answer[0] for answer in told[4:8]]
                self.assertEqual(counts, sorted(counts))
                # What is first with few heights may come later with more, but never the other way round.
                firsts = [answer[2:] for answer in told[:4] if answer != [0]]
                self.assertEqual(firsts, sorted(firsts, reverse=True))
                self.assertEqual([answer == [0] for answer in told[:4]], [number == 0 for number in counts])

    def test_more_figures_no_more(self):
        fewer = 0
        for seed in range(1400, 1500):
            sample = Sample(seed)
            rows = [sample.row(size) for size in range(len(sample.row(4)) + 1)]
            told = [sample.told(row) for row in rows]
            for less, more in zip(told, told[1:]):
                for one, other in zip(less[4:8], more[4:8]):
                    self.assertGreaterEqual(one[0], other[0], sample.text)
                fewer += less[7][0] > more[7][0] > 0 and less is not told[0]
                self.assertLessEqual(less[8][0] or 5, more[8][0] or 5, sample.text)
        self.assertGreater(fewer, 10)

    def test_order_of_a_row(self):
        for seed in range(1500, 1530):
            sample = Sample(seed)
            row = sample.row(3)
            for other in (row[::-1], row[1:] + row[:1], row + row[:1]):
                self.assertEqual(sample.told(other), sample.told(row), sample.text)

    def test_first_is_told_free(self):
        for seed in range(1600, 1660):
            sample = Sample(seed)
            row = sample.row(2)
            for highest, answer in zip(HEIGHTS, sample.told(row)):
                if answer != [0]:
                    self.assertEqual(answer[:2], [1, len(sample.pieces)])
                    self.assertLessEqual(max(answer[2:]), highest)
                    self.assertEqual(told_of(sample.text, fault(answer[2:], *row)), [[0]])


class SharedPoints(unittest.TestCase):
    def test_never_one_height(self):
        several = 0
        for seed in range(1700, 1760):
            sample = Sample(seed)
            shared = sample.shared()
            for figure in sample.row(2):
                told = sample.told([figure])
                for answer in told[:4]:
                    for m, n in shared if answer != [0] else ():
                        self.assertNotEqual(answer[2:][m], answer[2:][n], sample.text)
                for highest, answer in zip(HEIGHTS, told[4:8]):
                    stacks = sample.stacks(highest)
                    kept = [stack for stack in stacks if all(stack[m] != stack[n] for m, n in shared)]
                    self.assertLessEqual(answer[0], len(kept), sample.text)
                several += len(shared) > 1
        self.assertGreater(several, 20)

    def test_never_told_free(self):
        for seed in range(1800, 1830):
            sample = Sample(seed)
            source = sample.maker.source
            for m, n in sample.shared() if sample.figures else ():
                heights = [source.choice(HEIGHTS) for _ in sample.pieces]
                heights[n] = heights[m]
                answer = told_of(sample.text, fault(heights, sample.figures[0]))[0]
                self.assertEqual(answer[0], 1, sample.text)

    def test_one_shared_point_is_enough(self):
        # Nothing but D is shared by the dyad's bars, and the crank is far away.
        text = "pin A 0 0\npin B 50 0\npin E 60 0\ncrank C A 5\ndyad D B 7 E 7\n"
        told = told_of(text, *[count(highest, (1, 1, 0)) for highest in HEIGHTS], first(4, (1, 1, 0)), least((1, 1, 0)))
        self.assertEqual(told, [[0], [4], [18], [48], [1, 3, 1, 1, 2], [2]])


class Mirrored(unittest.TestCase):
    def mirrored_rows(self, rows):
        found = []
        for row in rows:
            if row[0] == "pin":
                row = row[:2] + [-row[2]]
            elif row[0] == "rider" and row[4] != "0":
                row = row[:4] + [row[4][1:] if row[4][0] == "-" else "-" + row[4]]
            found.append(row)
        return found

    def test_the_same_is_told(self):
        kinds = []
        for seed in range(1900, 1980):
            sample = Sample(seed)
            source = sample.maker.source
            mirror = text_of(self.mirrored_rows(sample.rows))
            every_side = (1 << len(sample.pieces) // 2) - 1
            for row in (sample.row(1), sample.row(4), sample.some_figures(2), sample.row(2) + sample.some_figures(1)):
                image = [(-a, b, sides ^ every_side) for a, b, sides in row]
                heights = (source.sample(HEIGHTS, 4) + [source.choice(HEIGHTS)])[:len(sample.pieces)]
                told = []
                for text, figures in ((sample.text, row), (mirror, image)):
                    calls = [first(highest, *figures) for highest in HEIGHTS]
                    calls += [count(highest, *figures) for highest in HEIGHTS]
                    told.append(told_of(text, *calls, least(*figures), fault(heights, *figures)))
                self.assertEqual(told[0], told[1], (sample.text, row, heights))
                kinds.append(told[0][-1][0])
        for kind in (-3, 0, 1, 2):
            self.assertGreater(kinds.count(kind), 5, kind)


if __name__ == "__main__":
    unittest.main()
