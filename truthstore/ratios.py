"""Exact fractions, each a tuple of its numerator and its denominator."""


def greatest_divisor(first, second):
    """The greatest number that divides both, neither of which is below 0."""
    while second > 0:
        rest = first % second
        first = second
        second = rest
    return first


def lowest(above, below):
    """The fraction above over below in lowest terms; above is at least 0, below is above 0."""
    divisor = greatest_divisor(above, below)
    return (above // divisor, below // divisor)
