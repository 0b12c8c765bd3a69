"""Common factors of whole numbers."""


def common_factor(n, m):
    """The greatest factor that both have; of 0 and a number it is that number's size."""
    greater = abs(n)
    lesser = abs(m)
    while lesser != 0:
        rest = greater % lesser
        greater = lesser
        lesser = rest
    return greater
