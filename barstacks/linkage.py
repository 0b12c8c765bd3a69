"""A linkage: its lines, and the pieces that they make."""

MOST_LINES = 12
MOST_CRANKS = 1
MOST_DYADS = 2
MOST_POINTS = 4


class Pin:
    """A fixed pin at (x, y)."""

    def __init__(self, x, y):
        self.x = x
        self.y = y


class Crank:
    """A pin that is turned about the point of line p."""

    def __init__(self, p, reach):
        self.p = p
        self.reach = reach


class Dyad:
    """A pin that two bars hold at the points of lines p and q; rank is its number among the dyads."""

    def __init__(self, rank, p, p_reach, q, q_reach):
        self.rank = rank
        self.p = p
        self.p_reach = p_reach
        self.q = q
        self.q_reach = q_reach


class Rider:
    """A point of a piece; along and aside are fractions (n, d) of the way from p to q."""

    def __init__(self, p, q, along, aside):
        self.p = p
        self.q = q
        self.along = along
        self.aside = aside


class Piece:
    """The lines whose points a piece has."""

    def __init__(self, ends):
        self.ends = ends
        self.riders = []

    def members(self):
        return self.ends + self.riders


class Linkage:
    """Lines by number; the ground stands apart, as the stacks number the pieces without it."""

    def __init__(self, text):
        self.text = text
        self.lines = []
        self.line_of = {}
        self.ground = Piece([])
        self.pieces = []
        self.cranks = 0
        self.dyads = 0

    def has_room_for(self, word):
        if len(self.lines) == MOST_LINES:
            return False
        if word == "crank":
            return self.cranks < MOST_CRANKS
        if word == "dyad":
            return self.dyads < MOST_DYADS
        return True

    def has_pin_at(self, x, y):
        pins = [self.lines[k] for k in self.ground.ends]
        return any([pin.x == x and pin.y == y for pin in pins])

    def is_fixed(self, line):
        return line in self.ground.members()

    def piece_with_ends(self, p, q):
        for piece in [self.ground] + self.pieces:
            if p in piece.ends and q in piece.ends:
                return piece
        return None

    def is_crowded(self):
        # The ground may have any number of points: the calls speak of the numbered pieces alone.
        return any([len(piece.members()) > MOST_POINTS for piece in self.pieces])

    def add_line(self, name, line):
        """Adds a line and answers its number."""
        number = len(self.lines)
        self.lines.append(line)
        self.line_of[name] = number
        return number

    def add_pin(self, name, x, y):
        self.ground.ends.append(self.add_line(name, Pin(x, y)))

    def add_crank(self, name, p, reach):
        number = self.add_line(name, Crank(p, reach))
        self.pieces.append(Piece([p, number]))
        self.cranks += 1

    def add_dyad(self, name, p, p_reach, q, q_reach):
        number = self.add_line(name, Dyad(self.dyads, p, p_reach, q, q_reach))
        self.pieces.append(Piece([p, number]))
        self.pieces.append(Piece([q, number]))
        self.dyads += 1

    def add_rider(self, name, p, q, along, aside):
        piece = self.piece_with_ends(p, q)
        piece.riders.append(self.add_line(name, Rider(p, q, along, aside)))
