"""Ratios: pairs (a, b) of integers for a / b, b more than 0, without a common divisor above 1."""

from math import gcd


def ratio(part, whole):
    """The ratio of part, a number, to whole, a number more than 0."""
    divisor = gcd(part, whole)
    return part // divisor, whole // divisor


def is_less(one, other):
    """Whether the ratio one is less than the ratio other."""
    return one[0] * other[1] < other[0] * one[1]
