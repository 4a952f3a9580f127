"""Exact division and square roots of whole numbers."""

from math import isqrt


def rounded(top, by):
    """The whole number nearest to top divided by `by`, of two equally near ones the greater one."""
    # Floor division goes down on both sides of 0, so adding a half first sends each tie up.
    return (2 * top + by) // (2 * by)


def root(number):
    """The greatest whole number whose square is no more than the number."""
    return isqrt(number)
