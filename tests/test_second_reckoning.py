"""Faults and free stacks reckoned a second time, another way: decimal numbers with many digits, and gaps.

Two hulls are apart just if some direction shows a gap between them: one along or across a way
between two points of the same hull will do. A hundred digits are more than enough to tell no gap
from a small one in the linkages made here.
"""

import itertools
import random
import unittest
from decimal import Decimal, localcontext

from helper import count, fault, first, least, take, told

TINY = Decimal(10) ** -40
FRACTIONS = ("0", "0", "1", "1", "-1", "2", "1/2", "-1/2", "1/3", "3/4", "2/5", "3/2", "-7/20", "11/19")
PLACES = ((0, 1), (1, 0), (1, 1), (1, 2), (1, 3), (-1, 1))


class Maker:
    """Makes linkages with many points at the same place or in line."""

    def __init__(self, seed):
        self.source = random.Random(seed)
        self.rows = []
        self.ground = []
        self.ends = []
        self.fixed = []
        self.members = {}

    def number(self):
        return self.source.choice((-4, -3, -2, -1, 0, 1, 2, 3, 4, 7, 12))

    def reach(self):
        return self.source.choice((1, 2, 3, 4, 5, 5, 6, 7, 10, 13))

    def pin(self):
        row = ["pin", self.number(), self.number()]
        if row not in self.rows:
            self.ground.append(len(self.rows))
            self.fixed.append(len(self.rows))
            self.rows.append(row)

    def room(self, piece):
        """Whether a piece has room for one more point, as 0, the ground, always has; then that is noted."""
        self.members[piece] = self.members.get(piece, 2) + 1
        return piece == 0 or self.members[piece] <= 4

    def crank(self):
        p = self.source.choice(self.fixed)
        self.ends.append((p, len(self.rows)))
        self.rows.append(["crank", p, self.reach()])

    def dyad(self):
        p = self.source.randrange(len(self.rows))
        q = self.source.randrange(len(self.rows))
        if p != q:
            self.ends.append((p, len(self.rows)))
            self.ends.append((q, len(self.rows)))
            self.rows.append(["dyad", p, self.reach(), q, self.reach()])

    def rider(self):
        piece = self.source.randrange(len(self.ends) + 1)
        ends = self.ground if piece == 0 else self.ends[piece - 1]
        if len(ends) >= 2 and self.room(piece):
            p, q = self.source.sample(list(ends), 2)
            if piece == 0:
                self.fixed.append(len(self.rows))
            self.rows.append(["rider", p, q, self.source.choice(FRACTIONS), self.source.choice(FRACTIONS)])

    def make(self):
        self.pin()
        for step in (self.pin, self.rider, self.crank, self.rider, self.dyad, self.rider, self.dyad):
            if step == self.crank or self.source.random() < 0.9:
                step()
        while len(self.rows) < 12 and self.source.random() < 0.7:
            self.rider()
        return self.rows


def text_of(rows):
    lines = []
    for k, row in enumerate(rows):
        words = [str(word) for word in row]
        for place in {"pin": (), "crank": (1,), "dyad": (1, 3), "rider": (1, 2)}[row[0]]:
            words[place] = "N%d" % (row[place] + 1)
        lines.append(" ".join([words[0], "N%d" % (k + 1)] + words[1:]) + "\n")
    return "".join(lines)


def pieces_of(rows):
    """The ground's points, and the points of each other piece."""
    ends = [[k for k, row in enumerate(rows) if row[0] == "pin"]]
    for k, row in enumerate(rows):
        if row[0] in ("crank", "dyad"):
            ends.extend([p, k] for p in row[1::2][:len(row) // 2])
    pieces = [list(piece) for piece in ends]
    for k, row in enumerate(rows):
        if row[0] == "rider":
            pieces[[row[1] in piece and row[2] in piece for piece in ends].index(True)].append(k)
    return pieces[0], pieces[1:]


def value_of(fraction):
    n, _, d = fraction.partition("/")
    return Decimal(n) / Decimal(d or 1)


def points_of(rows, a, b, sides):
    """The points, None if the figure doesn't close."""
    points = []
    for row in rows:
        if row[0] == "pin":
            point = (Decimal(row[1]), Decimal(row[2]))
        elif row[0] == "crank":
            way = (Decimal(b * b - a * a) / (b * b + a * a), Decimal(2 * a * b) / (b * b + a * a))
            point = tuple(points[row[1]][k] + row[2] * way[k] for k in (0, 1))
        elif row[0] == "rider":
            point = beside(points[row[1]], points[row[2]], value_of(row[3]), value_of(row[4]))
        else:
            point = dyad_point(points[row[1]], row[2], points[row[3]], row[4], sides & 1)
            sides >>= 1
        if point is None:
            return None
        points.append(point)
    return None if sides else points


def beside(p, q, along, aside):
    x, y = q[0] - p[0], q[1] - p[1]
    return (p[0] + along * x - aside * y, p[1] + along * y + aside * x)


def dyad_point(p, p_reach, q, q_reach, side):
    way = ((q[0] - p[0]) ** 2 + (q[1] - p[1]) ** 2).sqrt()
    if way < TINY or way > p_reach + q_reach + TINY or way < abs(p_reach - q_reach) - TINY:
        return None
    along = (way + (p_reach ** 2 - q_reach ** 2) / way) / 2
    aside = p_reach ** 2 - along ** 2
    aside = aside.sqrt() if aside > TINY else Decimal(0)
    return beside(p, q, along / way, (-aside if side else aside) / way)


def apart(one, other):
    directions = []
    for hull in (one, other):
        for p in hull:
            for q in hull:
                x, y = q[0] - p[0], q[1] - p[1]
                if abs(x) + abs(y) > TINY:
                    directions.extend([(x, y), (-y, x)])
    for x, y in directions:
        low, high = ([p[0] * x + p[1] * y for p in hull] for hull in (one, other))
        if max(low) < min(high) - TINY or max(high) < min(low) - TINY:
            return True
    return False


def fault_in(ground, pieces, heights, points):
    hulls = [[points[k] for k in piece] for piece in pieces]
    for m, n in sorted((m, n) for n in range(len(pieces)) for m in range(n)):
        if heights[m] == heights[n] and not apart(hulls[m], hulls[n]):
            return [1, m, n]
    for line, point in enumerate(points):
        held = [heights[m] for m, piece in enumerate(pieces) if line in piece] + [0] * (line in ground)
        for m, piece in enumerate(pieces):
            through = min(held) < heights[m] < max(held) and line not in piece
            if through and not apart([point], hulls[m]):
                return [2, line, m]
    return [0]


def reckoned(rows, heights, figures):
    every = [points_of(rows, *figure) for figure in figures]
    if None in every:
        return [-3, 1, every.index(None)]
    ground, pieces = pieces_of(rows)
    for number, points in enumerate(every):
        found = fault_in(ground, pieces, heights, points)
        if found != [0]:
            return [found[0], 3, number] + found[1:]
    return [0]


def is_free(stack, ground, pieces, meeting, covered):
    if any(stack[m] == stack[n] for m, n in meeting):
        return False
    for line, m in covered:
        held = [stack[n] for n, piece in enumerate(pieces) if line in piece] + [0] * (line in ground)
        if min(held) < stack[m] < max(held):
            return False
    return True


def free_reckoned(rows, figures):
    """Every free stack of heights up to 4, in order."""
    ground, pieces = pieces_of(rows)
    meeting = []
    covered = []
    for points in [points_of(rows, *figure) for figure in figures]:
        hulls = [[points[k] for k in piece] for piece in pieces]
        pairs = itertools.combinations(range(len(pieces)), 2)
        meeting.extend((m, n) for m, n in pairs if not apart(hulls[m], hulls[n]))
        for line, point in enumerate(points):
            held = [piece for piece in pieces if line in piece]
            others = [m for m, piece in enumerate(pieces) if held and line not in piece]
            covered.extend((line, m) for m in others if not apart([point], hulls[m]))
    stacks = itertools.product((1, 2, 3, 4), repeat=len(pieces))
    return [stack for stack in stacks if is_free(stack, ground, pieces, meeting, covered)]


def some_figures(maker):
    return [
        maker.source.choice(PLACES + ((maker.source.randint(-99, 99), maker.source.randint(1, 99)),))
        + (maker.source.randrange(4),)
        for _ in range(40)
    ]


class SecondReckoning(unittest.TestCase):
    def check(self, seed):
        """How the answers begin that both ways gave."""
        maker = Maker(seed)
        rows = maker.make()
        figures = some_figures(maker)
        closing = [figure for figure in figures if points_of(rows, *figure) is not None]
        calls = [take(text_of(rows))]
        expected = [[len(rows)]]
        for _ in range(6):
            row = maker.source.sample(closing, min(len(closing), maker.source.randint(1, 3)))
            if not row or maker.source.random() < 0.1:
                row = row + [maker.source.choice(figures)]
            heights = [maker.source.randint(1, 4) for _ in pieces_of(rows)[1]]
            if maker.source.random() < 0.7:
                heights = (maker.source.sample((1, 2, 3, 4), 4) + heights)[:len(heights)]
            calls.append(fault(heights, *row))
            expected.append(reckoned(rows, heights, row))
        self.assertEqual(told(*calls), expected, (text_of(rows), calls[1:]))
        return [answer[0] for answer in expected[1:]]

    def test_both_ways_agree(self):
        kinds = []
        with localcontext() as context:
            context.prec = 100
            for seed in range(250):
                kinds.extend(self.check(seed))
        for kind in (-3, 0, 1, 2):
            self.assertGreater(kinds.count(kind), 20, kind)

    def check_free_stacks(self, seed):
        """What least told, if that and all else is the same both ways."""
        maker = Maker(seed)
        rows = maker.make()
        figures = [figure for figure in some_figures(maker) if points_of(rows, *figure) is not None]
        row = figures[:maker.source.randint(1, 4)]
        free = free_reckoned(rows, row)
        calls = [take(text_of(rows))]
        expected = [[len(rows)]]
        fewest = 0
        for highest in (4, 3, 2, 1):
            calls.extend([first(highest, *row), count(highest, *row)])
            free = [stack for stack in free if max(stack) <= highest]
            expected.append([1, len(free[0])] + list(free[0]) if free else [0])
            expected.append([len(free)])
            fewest = highest if free else fewest
        self.assertEqual(told(*calls, least(*row)), expected + [[fewest]], (text_of(rows), row))
        return fewest

    def test_free_stacks_agree(self):
        fewest = []
        with localcontext() as context:
            context.prec = 100
            for seed in range(5000, 5400):
                fewest.append(self.check_free_stacks(seed))
        for number in range(5):
            self.assertGreater(fewest.count(number), 1, number)


if __name__ == "__main__":
    unittest.main()
