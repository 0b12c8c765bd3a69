"""The calls on one object, and their answers."""

from barstacks.figure import figure_at
from barstacks.reader import TextFault
from barstacks.stack import first_fault
from barstacks.text import linkage_of

MOST_BYTES = 1024
MOST_FIGURES = 4
MOST_HEIGHT = 4

TAKE = 0
PRINT = 1
PIECES = 2
FAULT = 3


class Calls:
    """The numbers that were handed in, and how many of them have been read."""

    def __init__(self, numbers):
        self.numbers = numbers
        self.done = 0

    def more(self):
        return self.done < len(self.numbers)

    def number(self):
        self.done += 1
        return self.numbers[self.done - 1]

    def row(self):
        """A list with its count ahead, as a copy."""
        count = self.number()
        self.done += count
        return self.numbers[self.done - count:self.done]


class Desk:
    """The object that the calls are about. Each answer is a number, then its lists with their counts."""

    def __init__(self):
        self.linkage = None

    def take(self, text):
        if len(text) > MOST_BYTES:
            return [-2]
        try:
            linkage = linkage_of(text)
        except TextFault as fault:
            return [-6, 1, fault.place]
        if linkage.is_crowded():
            return [-7]
        self.linkage = linkage
        return [len(linkage.lines)]

    def tell_text(self):
        if self.linkage is None:
            return [-9]
        text = self.linkage.text
        return [len(text)] + with_count(text)

    def tell_pieces(self):
        if self.linkage is None:
            return [-9]
        answer = [len(self.linkage.pieces)]
        for piece in self.linkage.pieces:
            answer.extend(with_count(piece.members()))
        return answer

    def tell_fault(self, heights, row):
        if self.linkage is None:
            return [-9]
        if not self.is_stack(heights) or len(row) > 3 * MOST_FIGURES:
            return [-1]
        figures = []
        for number in range(len(row) // 3):
            figure = figure_at(self.linkage, row[3 * number], row[3 * number + 1], row[3 * number + 2])
            if figure is None:
                return [-3, 1, number]
            figures.append(figure)
        found = first_fault(self.linkage, heights, figures)
        if found == []:
            return [0]
        return [found[0]] + with_count(found[1:])

    def is_stack(self, heights):
        if len(heights) != len(self.linkage.pieces):
            return False
        return all([1 <= height <= MOST_HEIGHT for height in heights])


def with_count(numbers):
    return [len(numbers)] + numbers


def answer_of(desk, calls):
    """Reads the next call and answers it."""
    call = calls.number()
    if call == TAKE:
        return desk.take(calls.row())
    if call == PRINT:
        return desk.tell_text()
    if call == PIECES:
        return desk.tell_pieces()
    if call == FAULT:
        heights = calls.row()
        return desk.tell_fault(heights, calls.row())
    raise NotImplementedError("first, count and least are not there yet")


def answers(calls):
    """The answers to all calls on one new object, each with how many numbers it has ahead."""
    desk = Desk()
    unread = Calls(calls)
    told = []
    while unread.more():
        told.extend(with_count(answer_of(desk, unread)))
    return told
