"""Numbers: fractions in lowest terms, as pairs (n, d) with d at least 1."""

from math import gcd


def ratio(n, d):
    """Return the number n / d for integers; d is not 0."""
    common = gcd(n, d)
    if d < 0:
        common = -common
    return (n // common, d // common)


def plus(a, b):
    """Return the sum of two numbers."""
    return ratio(a[0] * b[1] + b[0] * a[1], a[1] * b[1])


def minus(a, b):
    """Return the first number less the second one."""
    return ratio(a[0] * b[1] - b[0] * a[1], a[1] * b[1])


def times(a, b):
    """Return the product of two numbers."""
    return ratio(a[0] * b[0], a[1] * b[1])


def over(a, b):
    """Return the quotient of two numbers; the second one is not zero."""
    return ratio(a[0] * b[1], a[1] * b[0])


def is_less(a, b):
    """Return True if the first number is less than the second one, otherwise False."""
    return a[0] * b[1] < b[0] * a[1]


def sign(a):
    """Return 1 for a number above zero, 0 for zero and -1 for a number below zero."""
    if a[0] > 0:
        return 1
    if a[0] < 0:
        return -1
    return 0


def middle(a, b):
    """Return half the sum of two numbers."""
    return ratio(a[0] * b[1] + b[0] * a[1], 2 * a[1] * b[1])
