"""What any value is: an integer, a number, a spot, a lot."""

from math import gcd


def is_integer(value):
    """Whether this is an integer; True and False are none."""
    return isinstance(value, int) and not isinstance(value, bool)


def is_within(value, least, most):
    """Whether this is an integer from least to most; None stands for no bound."""
    if not is_integer(value):
        return False
    return (least is None or value >= least) and (most is None or value <= most)


def is_row_of(value, length):
    """Whether this is a list or tuple of so many members."""
    return isinstance(value, (list, tuple)) and len(value) == length


def is_number(value):
    """Whether this is an integer, or a pair of integers in lowest terms with 2 or more below."""
    if not is_row_of(value, 2):
        return is_integer(value)
    above, below = value
    return is_integer(above) and is_within(below, 2, None) and gcd(above, below) == 1


def is_spot(value):
    """Whether this is a list or tuple of two numbers."""
    return is_row_of(value, 2) and is_number(value[0]) and is_number(value[1])


def is_lot(value, many):
    """Whether this is a list or tuple of integers from 0 to below many that ascend."""
    if not isinstance(value, (list, tuple)):
        return False
    bound = 0
    for member in value:
        if not is_within(member, bound, many - 1):
            return False
        bound = member + 1
    return True
