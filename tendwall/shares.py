"""Exact fractions, each told as a numerator and a denominator."""


def find_lowest_terms(numerator, denominator):
    """The fraction of two numbers of at least 1 in lowest terms."""
    divisor = find_greatest_divisor(numerator, denominator)
    return [numerator // divisor, denominator // divisor]


def find_greatest_divisor(one, other):
    """The greatest common divisor of two numbers of at least 1."""
    while other > 0:
        rest = one % other
        one = other
        other = rest
    return one
