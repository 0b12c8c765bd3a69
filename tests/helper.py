"""Calls as lists of numbers, and their answers one by one."""

from barstacks.desk import answers

PRINT = [1]
PIECES = [2]


def bytes_of(text):
    return list(text.encode("latin-1"))


def take(text):
    return [0] + counted(bytes_of(text))


def fault(heights, *figures):
    return [3] + counted(heights) + counted([number for figure in figures for number in figure])


def counted(numbers):
    return [len(numbers)] + list(numbers)


def told(*calls):
    """The answers to calls on one object, a list for each, without the counts ahead of them."""
    numbers = answers([number for call in calls for number in call])
    found = []
    while numbers:
        found.append(numbers[1:numbers[0] + 1])
        assert len(found[-1]) == numbers[0]
        numbers = numbers[numbers[0] + 1:]
    assert len(found) == len(calls)
    return found


def told_fault(text, heights, *figures):
    """What fault answers of a linkage that is taken without a fault."""
    answer = told(take(text), fault(heights, *figures))
    assert answer[0] == [text.count("\n")], answer
    return answer[1]
