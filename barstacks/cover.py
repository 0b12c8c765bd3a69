"""What the pieces cover in one figure, and where they meet.

Points are called by their lines' numbers, and a piece is the list of its points' lines. A hull is
never built: it is the segments between each two of its points and the insides of the triangles
of each three of them.
"""

from barstacks.roots import minus, plus


class Cover:
    """A figure, with the turns of three points that have been told already."""

    def __init__(self, figure):
        self.points = figure.points
        self.roots = figure.roots
        self.turns = {}

    def turn(self, i, j, k):
        """1 if k lies on the left of the way from i to j, -1 on the right, 0 in line."""
        if i > j:
            return -self.turn(j, i, k)
        if j > k:
            return -self.turn(i, k, j)
        three = (i, j, k)
        if three not in self.turns:
            self.turns[three] = self.new_turn(self.points[i], self.points[j], self.points[k])
        return self.turns[three]

    def new_turn(self, p, q, r):
        x = self.roots.times(p.x, self.crossed(q.y, q.w, r.y, r.w))
        y = self.roots.times(p.y, self.crossed(q.w, q.x, r.w, r.x))
        w = self.roots.times(p.w, self.crossed(q.x, q.y, r.x, r.y))
        return self.roots.sign(plus(plus(x, y), w))

    def crossed(self, a, b, c, d):
        return minus(self.roots.times(a, d), self.roots.times(b, c))

    def on_segment(self, i, j, k):
        """Whether k lies between i and j or on one of them."""
        if self.turn(i, j, k) != 0:
            return False
        return not self.on_one_side(self.points[i], self.points[j], self.points[k])

    def on_one_side(self, p, q, r):
        """Of three points in line: whether p and q lie on one side of r, apart from it."""
        x = self.roots.times(self.crossed(p.x, p.w, r.x, r.w), self.crossed(q.x, q.w, r.x, r.w))
        y = self.roots.times(self.crossed(p.y, p.w, r.y, r.w), self.crossed(q.y, q.w, r.y, r.w))
        return self.roots.sign(plus(x, y)) > 0

    def in_triangle(self, three, k):
        """Whether k lies in the inside of a triangle."""
        turn = self.turn(three[0], three[1], k)
        if turn == 0:
            return False
        return self.turn(three[1], three[2], k) == turn and self.turn(three[2], three[0], k) == turn

    def covers(self, piece, k):
        """Whether k is one of the points that the piece covers."""
        if k in piece:
            return True
        for pair in pairs_of(piece):
            if self.on_segment(pair[0], pair[1], k):
                return True
        for three in threes_of(piece):
            if self.in_triangle(three, k):
                return True
        return False

    def covers_any(self, piece, others):
        for k in others:
            if self.covers(piece, k):
                return True
        return False

    def parts(self, pair, k, n):
        """Whether k and n lie on the two sides of the line through a pair, neither on it."""
        return self.turn(pair[0], pair[1], k) * self.turn(pair[0], pair[1], n) < 0

    def edges_cross(self, one, other):
        for pair in pairs_of(one):
            for way in pairs_of(other):
                if self.parts(pair, way[0], way[1]) and self.parts(way, pair[0], pair[1]):
                    return True
        return False

    def meet(self, one, other):
        """Whether two pieces have a point in common.

        If they have, but neither covers a point of the other, edges of both cross.
        """
        # Said ahead though covers tells it too: many pieces share a point, and nothing is reckoned then.
        if any([k in one for k in other]):
            return True
        return self.covers_any(one, other) or self.covers_any(other, one) or self.edges_cross(one, other)


def pairs_of(piece):
    pairs = []
    for m, i in enumerate(piece):
        pairs.extend([(i, j) for j in piece[m + 1:]])
    return pairs


def threes_of(piece):
    threes = []
    for m, i in enumerate(piece):
        threes.extend([(i, pair[0], pair[1]) for pair in pairs_of(piece[m + 1:])])
    return threes
