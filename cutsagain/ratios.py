"""Fractions of integers."""

from math import gcd


def ratio(numerator, denominator):
    """The tuple (numerator, denominator) in least numbers."""
    common = gcd(numerator, denominator)
    return numerator // common, denominator // common
