"""A number by another, in whole numbers alone: rounded, and compared with another such."""


def rounded(number, divisor):
    """The nearest whole number to number by divisor, a half up (below 0 too)."""
    return (2 * number + divisor) // (2 * divisor)


def is_more(one, other):
    """Whether the first of one by its second is more than the other's; the seconds are above 0."""
    return one[0] * other[1] > other[0] * one[1]
