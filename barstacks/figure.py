"""Where the points of a linkage are in one figure."""

from barstacks.factors import common_factor
from barstacks.linkage import Crank, Dyad, Pin
from barstacks.roots import INNER_ROOT, ONE, OUTER_ROOT, Roots, divided, minus, plus, scaled, whole

FARTHEST = 99


class Point:
    """The point (x / w, y / w); w is above 0. Kept as a fraction, as the roots don't divide."""

    def __init__(self, x, y, w):
        self.x = x
        self.y = y
        self.w = w


class Figure:
    """The points by their lines' numbers, and the roots that their numbers are told by."""

    def __init__(self):
        self.points = []
        self.roots = Roots()


def reduced_point(x, y, w):
    """The point (x / w, y / w). Its numbers are made small, as each point's go into later ones'."""
    factor = 0
    for n in x + y + w:
        factor = common_factor(n, factor)
    return Point(divided(x, factor), divided(y, factor), divided(w, factor))


def is_place(a, b):
    return abs(a) <= FARTHEST and abs(b) <= FARTHEST and not (a == 0 and b == 0)


def figure_at(linkage, a, b, sides):
    """The figure; None if it doesn't close or has no place."""
    if not is_place(a, b) or sides >> linkage.dyads != 0:
        return None
    figure = Figure()
    for line in linkage.lines:
        if isinstance(line, Pin):
            point = Point(whole(line.x), whole(line.y), ONE)
        elif isinstance(line, Crank):
            point = crank_point(figure, line, a, b)
        elif isinstance(line, Dyad):
            point = dyad_point(figure, line, (sides >> line.rank) & 1)
        else:
            point = rider_point(figure, line)
        if point is None:
            return None
        figure.points.append(point)
    return figure


def crank_point(figure, line, a, b):
    p = figure.points[line.p]
    size = b * b + a * a
    x = plus(scaled(p.x, size), scaled(p.w, line.reach * (b * b - a * a)))
    y = plus(scaled(p.y, size), scaled(p.w, line.reach * 2 * a * b))
    return reduced_point(x, y, scaled(p.w, size))


def rider_point(figure, line):
    along = whole(line.along[0] * line.aside[1])
    aside = whole(line.aside[0] * line.along[1])
    base = whole(line.along[1] * line.aside[1])
    return point_beside(figure.roots, figure.points[line.p], figure.points[line.q], along, aside, base)


def dyad_point(figure, line, side):
    """The pin of a dyad, None if its circles don't meet.

    With the way from P to Q as v / w and n = v v, the pin lies t / 2n of the way along it, where
    t = n + (p p - q q) w w, and the root of 4 p p n w w - t t, again / 2n, of the way aside.
    """
    roots = figure.roots
    p = figure.points[line.p]
    q = figure.points[line.q]
    x = difference(roots, p.x, p.w, q.x, q.w)
    y = difference(roots, p.y, p.w, q.y, q.w)
    n = plus(roots.square(x), roots.square(y))
    if roots.sign(n) == 0:
        return None
    w_square = roots.square(roots.times(p.w, q.w))
    p_square = line.p_reach * line.p_reach
    along = plus(n, scaled(w_square, p_square - line.q_reach * line.q_reach))
    below_root = minus(scaled(roots.times(n, w_square), 4 * p_square), roots.square(along))
    if roots.sign(below_root) < 0:
        return None
    aside = new_root(roots, line.rank, below_root)
    if side == 1:
        aside = scaled(aside, -1)
    return point_beside(roots, p, q, along, aside, scaled(n, 2))


def new_root(roots, rank, below_root):
    # The points that hold the first dyad come without a root, those that hold the second one
    # with the first one's alone: so what is left out here is 0.
    if rank == 0:
        roots.inner = below_root[0]
        return INNER_ROOT
    roots.outer = below_root[0:2]
    return OUTER_ROOT


def difference(roots, p, p_w, q, q_w):
    """q / q_w - p / p_w, times both these."""
    return minus(roots.times(q, p_w), roots.times(p, q_w))


def point_beside(roots, p, q, along, aside, base):
    """From p on: along / base of the way to q, then aside / base of it turned to the left."""
    x = difference(roots, p.x, p.w, q.x, q.w)
    y = difference(roots, p.y, p.w, q.y, q.w)
    p_scale = roots.times(q.w, base)
    x_way = minus(roots.times(along, x), roots.times(aside, y))
    y_way = plus(roots.times(along, y), roots.times(aside, x))
    return reduced_point(
        plus(roots.times(p.x, p_scale), x_way),
        plus(roots.times(p.y, p_scale), y_way),
        roots.times(p.w, p_scale),
    )
