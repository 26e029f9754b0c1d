"""Reckoning with raw fractions: pairs of integers in lowest terms, with 1 or more below.

A number that callers pass or get is an integer wherever it can be one. Within the package
all numbers are raw, so that no step has to ask which of the two kinds it has.
"""

from math import gcd


def raw(number):
    """The raw fraction of a number."""
    if isinstance(number, int):
        return (number, 1)
    return (number[0], number[1])


def told(fraction):
    """The number that a raw fraction stands for, in its one form."""
    if fraction[1] == 1:
        return fraction[0]
    return fraction


def made(above, below):
    """The raw fraction of two integers, the one below not 0."""
    if below == 1:
        return (above, 1)
    common = gcd(above, below)
    if below < 0:
        common = -common
    return (above // common, below // common)


def add(one, other):
    """The sum of two raw fractions."""
    return made(one[0] * other[1] + other[0] * one[1], one[1] * other[1])


def subtract(one, other):
    """One raw fraction less another one."""
    return made(one[0] * other[1] - other[0] * one[1], one[1] * other[1])


def multiply(one, other):
    """The product of two raw fractions."""
    return made(one[0] * other[0], one[1] * other[1])


def divide(one, other):
    """One raw fraction over another one that is not 0."""
    return made(one[0] * other[1], one[1] * other[0])


def negative(fraction):
    """A raw fraction with the other sign."""
    return (-fraction[0], fraction[1])


def is_smaller(one, other):
    """Whether one raw fraction is less than another one."""
    return one[0] * other[1] < other[0] * one[1]


def smaller(one, other):
    """The lesser one of two raw fractions."""
    if is_smaller(other, one):
        return other
    return one


def greater(one, other):
    """The greater one of two raw fractions."""
    if is_smaller(one, other):
        return other
    return one


def floor(fraction):
    """The greatest integer that is not above a raw fraction."""
    return fraction[0] // fraction[1]


def ceiling(fraction):
    """The least integer that is not below a raw fraction."""
    return -(-fraction[0] // fraction[1])
