"""Calls as lists of numbers, and their answers one by one."""

from barstacks.desk import answers

PRINT = [1]
PIECES = [2]


def bytes_of(text):
    return list(text.encode("latin-1"))


def take(text):
    return [0] + counted(bytes_of(text))


def fault(heights, *figures):
    return [3] + counted(heights) + row_of(figures)


def first(highest, *figures):
    return [4, highest] + row_of(figures)


def count(highest, *figures):
    return [5, highest] + row_of(figures)


def least(*figures):
    return [6] + row_of(figures)


def row_of(figures):
    return counted([number for figure in figures for number in figure])


def counted(numbers):
    return [len(numbers)] + list(numbers)


def told(*calls):
    """The answers to calls on one object, a list for each, without the counts ahead of them."""
    numbers = answers([number for call in calls for number in call])
    found = []
    while numbers:
        found.append(numbers[1:numbers[0] + 1])
        assert len(found[-1]) == numbers[0]
        numbers = numbers[numbers[0] + 1:]
    assert len(found) == len(calls)
    return found


def told_of(text, *calls):
    """The answers to calls on a linkage that is taken without a fault."""
    found = told(take(text), *calls)
    assert found[0] == [text.count("\n")], found[0]
    return found[1:]


def told_fault(text, heights, *figures):
    return told_of(text, fault(heights, *figures))[0]
