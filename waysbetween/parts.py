"""Fractions, as tuples of the number above the line and the one below, in lowest terms."""


def fraction(above, below):
    divisor = greatest_divisor(above, below)
    return (above // divisor, below // divisor)


def greatest_divisor(first, second):
    """The greatest number that divides both; second is above 0."""
    larger = first
    smaller = second
    while smaller > 0:
        rest = larger % smaller
        larger = smaller
        smaller = rest
    return larger


def together(one, other):
    return fraction(one[0] * other[1] + other[0] * one[1], one[1] * other[1])


def common_below(several):
    """The least number that can stand below the line of all these fractions."""
    below = 1
    for one in several:
        below = below * one[1] // greatest_divisor(below, one[1])
    return below
