"""When a stack, a height for each piece, is at fault, and which stacks are free."""

from barstacks.cover import Cover, pairs_of


class Crossing:
    """A pin and a piece that it isn't of; holders are the pieces that it is of, beside the ground."""

    def __init__(self, line, holders, grounded, piece):
        self.line = line
        self.holders = holders
        self.grounded = grounded
        self.piece = piece

    def lies_between(self, heights):
        """Whether the piece lies between the pin's ends, at neither of them."""
        held = [heights[k] for k in self.holders]
        if self.grounded:
            held.append(0)
        return min(held) < heights[self.piece] < max(held)

    def last_piece(self):
        """The last piece whose height must be known."""
        return max(self.holders + [self.piece])


def piece_pairs(linkage):
    """Each two pieces, by the lesser one's number, then the greater's."""
    return pairs_of(list(range(len(linkage.pieces))))


def crossings_of(linkage):
    """Each pin with each piece that it isn't of, by the point's line, then the piece."""
    crossings = []
    for line in range(len(linkage.lines)):
        holders = [k for k, piece in enumerate(linkage.pieces) if line in piece.members()]
        grounded = linkage.is_fixed(line)
        if len(holders) + int(grounded) < 2:
            continue
        others = [k for k in range(len(linkage.pieces)) if k not in holders]
        crossings.extend([Crossing(line, holders, grounded, k) for k in others])
    return crossings


def first_fault(linkage, heights, figures):
    """The first fault: its kind, which figure, and the two that meet; an empty list if there's none."""
    pieces = [piece.members() for piece in linkage.pieces]
    pairs = [pair for pair in piece_pairs(linkage) if heights[pair[0]] == heights[pair[1]]]
    crossings = [crossing for crossing in crossings_of(linkage) if crossing.lies_between(heights)]
    for number, figure in enumerate(figures):
        cover = Cover(figure)
        for pair in pairs:
            if cover.meet(pieces[pair[0]], pieces[pair[1]]):
                return [1, number, pair[0], pair[1]]
        for crossing in crossings:
            if cover.covers(pieces[crossing.piece], crossing.line):
                return [2, number, crossing.line, crossing.piece]
    return []


def free_stacks(linkage, highest, figures):
    """Every free stack with heights 1 to highest, in order."""
    covers = [Cover(figure) for figure in figures]
    pairs = [pair for pair in piece_pairs(linkage) if meet_in_one(linkage, covers, pair)]
    crossings = [crossing for crossing in crossings_of(linkage) if cross_in_one(linkage, covers, crossing)]
    stacks = [[]]
    for number in range(len(linkage.pieces)):
        stacks = with_one_more(stacks, highest, [pair[0] for pair in pairs if pair[1] == number])
        # Asked as soon as all its heights are there: what can't become free isn't built on.
        for crossing in crossings:
            if crossing.last_piece() == number:
                stacks = [stack for stack in stacks if not crossing.lies_between(stack)]
    return stacks


def with_one_more(stacks, highest, unlike):
    """Each stack with each height for one more piece that the pieces unlike it don't have."""
    longer = []
    for stack in stacks:
        taken = [stack[k] for k in unlike]
        longer.extend([stack + [height] for height in range(1, highest + 1) if height not in taken])
    return longer


def meet_in_one(linkage, covers, pair):
    """Whether two pieces meet in one of the figures or more."""
    lesser = linkage.pieces[pair[0]].members()
    greater = linkage.pieces[pair[1]].members()
    for cover in covers:
        if cover.meet(lesser, greater):
            return True
    return False


def cross_in_one(linkage, covers, crossing):
    """Whether the piece covers the pin's point in one of the figures or more."""
    piece = linkage.pieces[crossing.piece].members()
    for cover in covers:
        if cover.covers(piece, crossing.line):
            return True
    return False
