"""The exact numbers of one figure.

A number is a tuple (k, l, m, n) of whole numbers and stands for k + l R + (m + n R) S: R is the
root of a whole number, S the root of a pair (g, h), that is of g + h R; neither of these is
below 0. The first dyad brings in R, the second one S, and nothing needs a third root.

Signs are told by comparing squares, so no root is ever drawn; they hold too where a root is
itself a number of the simpler kind, and one value may then be told in several ways.
"""

ONE = (1, 0, 0, 0)
INNER_ROOT = (0, 1, 0, 0)
OUTER_ROOT = (0, 0, 1, 0)


def whole(n):
    return (n, 0, 0, 0)


def plus(x, y):
    return (x[0] + y[0], x[1] + y[1], x[2] + y[2], x[3] + y[3])


def minus(x, y):
    return (x[0] - y[0], x[1] - y[1], x[2] - y[2], x[3] - y[3])


def scaled(x, n):
    return (x[0] * n, x[1] * n, x[2] * n, x[3] * n)


def divided(x, factor):
    """x by a whole number that all its parts have as a factor."""
    return (x[0] // factor, x[1] // factor, x[2] // factor, x[3] // factor)


def whole_sign(n):
    if n > 0:
        return 1
    if n < 0:
        return -1
    return 0


def pair_times(x, y, inner):
    return (x[0] * y[0] + x[1] * y[1] * inner, x[0] * y[1] + x[1] * y[0])


def pair_sign(x, inner):
    """The sign of x[0] + x[1] R."""
    first = whole_sign(x[0])
    second = whole_sign(x[1]) * whole_sign(inner)
    if first * second >= 0:
        return whole_sign(first + second)
    return first * whole_sign(x[0] * x[0] - x[1] * x[1] * inner)


class Roots:
    """What stands below the two roots of a figure; 0 where there's no dyad for it."""

    def __init__(self):
        self.inner = 0
        self.outer = (0, 0)

    def times(self, x, y):
        x_low = x[0:2]
        y_low = y[0:2]
        x_high = x[2:4]
        y_high = y[2:4]
        low = pair_times(x_low, y_low, self.inner)
        # Most points have no outer root: most products end here.
        if x_high == (0, 0) and y_high == (0, 0):
            return low + (0, 0)
        squared = pair_times(pair_times(x_high, y_high, self.inner), self.outer, self.inner)
        left = pair_times(x_low, y_high, self.inner)
        right = pair_times(x_high, y_low, self.inner)
        return (low[0] + squared[0], low[1] + squared[1], left[0] + right[0], left[1] + right[1])

    def square(self, x):
        return self.times(x, x)

    def sign(self, x):
        low = x[0:2]
        high = x[2:4]
        first = pair_sign(low, self.inner)
        second = pair_sign(high, self.inner) * pair_sign(self.outer, self.inner)
        if first * second >= 0:
            return whole_sign(first + second)
        low_square = pair_times(low, low, self.inner)
        high_square = pair_times(pair_times(high, high, self.inner), self.outer, self.inner)
        difference = (low_square[0] - high_square[0], low_square[1] - high_square[1])
        return first * pair_sign(difference, self.inner)
