"""The calls on one object, and their answers."""

from barstacks.figure import figure_at
from barstacks.reader import TextFault
from barstacks.stack import first_fault, free_stacks
from barstacks.text import linkage_of

MOST_BYTES = 1024
MOST_FIGURES = 4
MOST_HEIGHT = 4

TAKE = 0
PRINT = 1
PIECES = 2
FAULT = 3
FIRST = 4
COUNT = 5
LEAST = 6


class NoLinkage(ValueError):
    """Nothing has been taken yet."""


class OutOfBounds(ValueError):
    """A height or how many there are can't be, or the row has too many figures."""


class OpenFigure(ValueError):
    """A figure that doesn't close or has no place; rank tells which one of its row."""

    def __init__(self, rank):
        self.rank = rank


class Calls:
    """The numbers that were handed in, and how many of them have been read."""

    def __init__(self, numbers):
        self.numbers = numbers
        self.done = 0

    def more(self):
        return self.done < len(self.numbers)

    def number(self):
        self.done += 1
        return self.numbers[self.done - 1]

    def row(self):
        """A list with its count ahead, as a copy."""
        count = self.number()
        self.done += count
        return self.numbers[self.done - count:self.done]


class Desk:
    """The object that the calls are about. Each answer is a number, then its lists with their counts."""

    def __init__(self):
        self.linkage = None

    def take(self, text):
        if len(text) > MOST_BYTES:
            return [-2]
        try:
            linkage = linkage_of(text)
        except TextFault as fault:
            return [-6, 1, fault.place]
        if linkage.is_crowded():
            return [-7]
        self.linkage = linkage
        return [len(linkage.lines)]

    def known_linkage(self):
        if self.linkage is None:
            raise NoLinkage()
        return self.linkage

    def tell_text(self):
        text = self.known_linkage().text
        return [len(text)] + with_count(text)

    def tell_pieces(self):
        pieces = self.known_linkage().pieces
        answer = [len(pieces)]
        for piece in pieces:
            answer.extend(with_count(piece.members()))
        return answer

    def tell_fault(self, heights, row):
        linkage = self.known_linkage()
        check_bounds(heights, row)
        if len(heights) != len(linkage.pieces):
            raise OutOfBounds()
        found = first_fault(linkage, heights, figures_of(linkage, row))
        if found == []:
            return [0]
        return [found[0]] + with_count(found[1:])

    def tell_first(self, highest, row):
        stacks = self.free_ones(highest, row)
        if stacks == []:
            return [0]
        return [1] + with_count(stacks[0])

    def tell_count(self, highest, row):
        return [len(self.free_ones(highest, row))]

    def tell_least(self, row):
        return [min([max(stack) for stack in self.free_ones(MOST_HEIGHT, row)], default=0)]

    def free_ones(self, highest, row):
        linkage = self.known_linkage()
        check_bounds([highest], row)
        return free_stacks(linkage, highest, figures_of(linkage, row))


def check_bounds(heights, row):
    for height in heights:
        if not 1 <= height <= MOST_HEIGHT:
            raise OutOfBounds()
    if len(row) > 3 * MOST_FIGURES:
        raise OutOfBounds()


def figures_of(linkage, row):
    figures = []
    for rank in range(len(row) // 3):
        figure = figure_at(linkage, row[3 * rank], row[3 * rank + 1], row[3 * rank + 2])
        if figure is None:
            raise OpenFigure(rank)
        figures.append(figure)
    return figures


def with_count(numbers):
    return [len(numbers)] + numbers


def answer_of(desk, calls):
    """Reads the next call and answers it, or tells why it is refused."""
    try:
        return granted_answer(desk, calls)
    except NoLinkage:
        return [-9]
    except OutOfBounds:
        return [-1]
    except OpenFigure as refusal:
        return [-3, 1, refusal.rank]


def granted_answer(desk, calls):
    call = calls.number()
    if call == TAKE:
        return desk.take(calls.row())
    if call == PRINT:
        return desk.tell_text()
    if call == PIECES:
        return desk.tell_pieces()
    if call == FAULT:
        heights = calls.row()
        return desk.tell_fault(heights, calls.row())
    if call == FIRST:
        highest = calls.number()
        return desk.tell_first(highest, calls.row())
    if call == COUNT:
        highest = calls.number()
        return desk.tell_count(highest, calls.row())
    if call == LEAST:
        return desk.tell_least(calls.row())
    raise ValueError(f"there is no call {call}")


def answers(calls):
    """The answers to all calls on one new object, each with how many numbers it has ahead."""
    desk = Desk()
    unread = Calls(calls)
    told = []
    while unread.more():
        told.extend(with_count(answer_of(desk, unread)))
    return told
