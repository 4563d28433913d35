"""Fractions as pairs (top, bottom), the bottom above 0."""

from math import gcd

ZERO = (0, 1)


def lowest(top, bottom):
    """The pair in lowest terms for top by bottom; the bottom handed in may be below 0."""
    shared = gcd(top, bottom)
    if bottom < 0:
        shared = -shared
    return (top // shared, bottom // shared)


def is_below(one, other):
    """Whether the one fraction is below the other."""
    return one[0] * other[1] < other[0] * one[1]


def least(fractions):
    """The least of some fractions; None, if there are none."""
    best = None
    for fraction in fractions:
        if best is None or is_below(fraction, best):
            best = fraction
    return best


def most(fractions):
    """The greatest of some fractions; None, if there are none."""
    best = None
    for fraction in fractions:
        if best is None or is_below(best, fraction):
            best = fraction
    return best
