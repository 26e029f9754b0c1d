"""Numbers: integers, and pairs of integers in lowest terms. Nothing is rounded."""

from lanecross.checks import is_integer, is_number
from lanecross.errors import BadNumber, BadText, Misfit
from lanecross.numerals import number_in, numeral
from lanecross.reckon import add, divide, greater, is_smaller, made, multiply, raw, smaller, subtract, told


def ratio(above, below):
    """The number that two integers make."""
    if not is_integer(above):
        raise BadNumber("above")
    if not is_integer(below) or below == 0:
        raise BadNumber("below")
    return told(made(above, below))


def both_raw(one, other):
    """The raw fractions of two numbers that a caller passed."""
    if not is_number(one):
        raise BadNumber("one")
    if not is_number(other):
        raise BadNumber("other")
    return raw(one), raw(other)


def plus(one, other):
    """The sum."""
    first, second = both_raw(one, other)
    return told(add(first, second))


def minus(one, other):
    """The difference."""
    first, second = both_raw(one, other)
    return told(subtract(first, second))


def times(one, other):
    """The product."""
    first, second = both_raw(one, other)
    return told(multiply(first, second))


def over(one, other):
    """The quotient."""
    first, second = both_raw(one, other)
    if second[0] == 0:
        raise Misfit("other")
    return told(divide(first, second))


def distance(one, other):
    """By how much two numbers differ, 0 or more."""
    first, second = both_raw(one, other)
    return told(subtract(greater(first, second), smaller(first, second)))


def is_less(one, other):
    """Whether one is less than other."""
    first, second = both_raw(one, other)
    return is_smaller(first, second)


def all_raw(values):
    """The raw fractions of a list of one number or more that a caller passed."""
    if not isinstance(values, (list, tuple)) or len(values) == 0:
        raise BadNumber("values")
    if not all([is_number(value) for value in values]):
        raise BadNumber("values")
    return [raw(value) for value in values]


def least(values):
    """The least one of a list of numbers."""
    fractions = all_raw(values)
    found = fractions[0]
    for fraction in fractions:
        found = smaller(found, fraction)
    return told(found)


def greatest(values):
    """The greatest one of a list of numbers."""
    fractions = all_raw(values)
    found = fractions[0]
    for fraction in fractions:
        found = greater(found, fraction)
    return told(found)


def number_text(value):
    """The text of a number, one item."""
    if not is_number(value):
        raise BadNumber("value")
    return numeral(value)


def number_of(text):
    """The number whose text this is."""
    if not isinstance(text, str):
        raise BadText(0, 0)
    found = number_in(text)
    if found is None:
        raise BadText(0, 0)
    return found
