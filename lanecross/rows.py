"""Rows of stretches, as callers pass them, and as lists of raw lines [lines]."""

from lanecross.checks import is_spot
from lanecross.lines import is_straight
from lanecross.reckon import is_smaller, raw, told


def raw_corners(stretch):
    """The raw line of a stretch."""
    return [(raw(corner[0]), raw(corner[1])) for corner in stretch]


def is_stretch(value):
    """Whether this is a list of corners, one at least, by rising places, that bends at each inner one."""
    if not isinstance(value, (list, tuple)) or len(value) == 0:
        return False
    if not all([is_spot(corner) for corner in value]):
        return False
    line = raw_corners(value)
    for at in range(1, len(line)):
        if not is_smaller(line[at - 1][0], line[at][0]):
            return False
        if at > 1 and is_straight(line[at - 2], line[at - 1], line[at]):
            return False
    return True


def is_row(value):
    """Whether this is a row of stretches, which lie apart by rising places."""
    if not isinstance(value, (list, tuple)):
        return False
    if not all([is_stretch(stretch) for stretch in value]):
        return False
    for at in range(1, len(value)):
        if not is_smaller(raw(value[at - 1][-1][0]), raw(value[at][0][0])):
            return False
    return True


def raw_row(row):
    """The raw lines of a row of stretches."""
    return [raw_corners(stretch) for stretch in row]


def told_row(lines):
    """The row of stretches of raw lines."""
    return tuple([tuple([(told(place), told(moment)) for place, moment in line]) for line in lines])
