"""Whether a stack, a height for each piece, is at fault."""

from barstacks.cover import Cover


def first_fault(linkage, heights, figures):
    """The first fault: its kind, which figure, and the two that meet; an empty list if there's none."""
    for number, figure in enumerate(figures):
        cover = Cover(figure)
        found = meeting_pieces(linkage, heights, cover)
        if found != []:
            return [1, number] + found
        found = pierced_piece(linkage, heights, cover)
        if found != []:
            return [2, number] + found
    return []


def meeting_pieces(linkage, heights, cover):
    """The first two pieces of one height that meet, or an empty list."""
    pieces = [piece.members() for piece in linkage.pieces]
    for lesser in range(len(pieces)):
        for greater in range(lesser + 1, len(pieces)):
            if heights[lesser] == heights[greater] and cover.meet(pieces[lesser], pieces[greater]):
                return [lesser, greater]
    return []


def pierced_piece(linkage, heights, cover):
    """The first pin's line and the first piece that it goes through and mustn't, or an empty list."""
    pieces = [piece.members() for piece in linkage.pieces]
    for line in range(len(linkage.lines)):
        held = heights_at(linkage, heights, line)
        for number, piece in enumerate(pieces):
            if line in piece or not min(held) < heights[number] < max(held):
                continue
            if cover.covers(piece, line):
                return [line, number]
    return []


def heights_at(linkage, heights, line):
    """The heights of the pieces that the point is of; of one alone there's nothing between."""
    held = [heights[k] for k, piece in enumerate(linkage.pieces) if line in piece.members()]
    if linkage.is_fixed(line):
        held.append(0)
    return held
