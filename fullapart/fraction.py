"""Fractions: tuples (over, under) that no number above 1 divides."""

from math import gcd


def fraction_of(over, under):
    """Tell the fraction that is so much over so much, under from 0 on, not both 0."""
    common = gcd(over, under)
    return (over // common, under // common)
