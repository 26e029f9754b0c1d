"""Numbers as items of texts."""

from math import gcd

MOST_DIGITS = 60


def digits_of(value):
    """The digits of an integer from 0 on, in blocks: Python's str refuses very long integers."""
    block = 10 ** 60
    parts = []
    while value >= block:
        value, low = divmod(value, block)
        parts.append(str(low).zfill(60))
    parts.append(str(value))
    return "".join(parts[::-1])


def integer_text(value):
    """The item of an integer."""
    if value < 0:
        return "-" + digits_of(-value)
    return digits_of(value)


def numeral(number):
    """The item of a number."""
    if isinstance(number, int):
        return integer_text(number)
    return integer_text(number[0]) + "/" + integer_text(number[1])


def integer_in(item):
    """The integer whose item this string is; None if there is none."""
    digits = item.removeprefix("-")
    if not (digits.isascii() and digits.isdigit()) or len(digits) > MOST_DIGITS:
        return None
    if digits[0] == "0" and item != "0":
        return None
    return int(item)


def number_in(item):
    """The number whose item this string is; None if there is none."""
    first, bar, last = item.partition("/")
    above = integer_in(first)
    if bar == "" or above is None:
        return above
    below = integer_in(last)
    if below is None or below < 2 or gcd(above, below) != 1:
        return None
    return (above, below)
