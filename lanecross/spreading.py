"""What rows of stretches spread to in pieces, and what comes through links, in raw lines.

Whoever stands on spots (m, y) can be at a place x from the least of m and the distance of
x and y, together, on: this is the reach. The ground lets them be there between its first
moment and its last one at x.
"""

from lanecross.lines import capped_lines, lower_line, straightened_line, upper_line
from lanecross.pieces import first_line, last_line
from lanecross.reckon import add, divide, is_smaller, smaller, subtract


class Ground:
    """A piece, as the lines of its first and its last moments."""

    def __init__(self, piece):
        self.first = first_line(piece)
        self.last = last_line(piece)


def late_parts(rows, ground):
    """The lines, no earlier than the ground's first moments, as far as they have its places."""
    parts = [upper_line(line, ground.first) for line in rows]
    return [part for part in parts if len(part) > 0]


def timely_parts(rows, ground):
    """The parts of lines that are nowhere behind the ground's last moments."""
    return [part for line in rows for part in capped_lines(line, ground.last)]


def reached_moments(corners):
    """The moment of the reach of corners at each of their places: the least one from both sides."""
    moments = [moment for _, moment in corners]
    for at in range(1, len(corners)):
        way = subtract(corners[at][0], corners[at - 1][0])
        moments[at] = smaller(moments[at], add(moments[at - 1], way))
    for at in range(len(corners) - 2, -1, -1):
        way = subtract(corners[at + 1][0], corners[at][0])
        moments[at] = smaller(moments[at], add(moments[at + 1], way))
    return moments


def tent(one, other):
    """The line between two points that goes on at full pace from both of them until it meets."""
    way = subtract(other[0], one[0])
    climb = divide(add(way, subtract(other[1], one[1])), (2, 1))
    middle = add(one[0], climb)
    if is_smaller(one[0], middle) and is_smaller(middle, other[0]):
        return [one, (middle, add(one[1], climb)), other]
    return [one, other]


def reach_between(corner, one, following, other):
    """The line of the reach on a stretch from corner to following, from the points one to other."""
    if one == corner and other == following:
        return [one, other]
    return lower_line(tent(one, other), [corner, following])


def inner_reach(rows):
    """The line of the reach of lines, from their first place to their last one."""
    corners = [corner for line in rows for corner in line]
    places = [place for place, _ in corners]
    points = list(zip(places, reached_moments(corners)))
    found = []
    at = 0
    for line in rows:
        if at > 0:
            found.extend(tent(points[at - 1], points[at])[1:-1])
        found.append(points[at])
        for index in range(1, len(line)):
            found.extend(reach_between(line[index - 1], points[at], line[index], points[at + 1])[1:])
            at += 1
        at += 1
    return found


def reach(rows, first, last):
    """The line of the reach of lines, one at least, at all places from first to last."""
    found = inner_reach(rows)
    place, moment = found[0]
    if is_smaller(first, place):
        found = [(first, add(moment, subtract(place, first))), *found]
    place, moment = found[-1]
    if is_smaller(place, last):
        found.append((last, add(moment, subtract(last, place))))
    return found


def reach_on(rows, ground):
    """The line of the reach of lines at all places of a ground."""
    return reach(rows, ground.first[0][0], ground.first[-1][0])


def let_be(line, ground):
    """The front of the reach: where and when the ground lets somebody be."""
    parts = timely_parts([upper_line(line, ground.first)], ground)
    return [straightened_line(part) for part in parts]


def spread_lines(rows, ground):
    """What the lines of spots of a ground spread to."""
    if len(rows) == 0:
        return []
    return let_be(reach_on(rows, ground), ground)


def least_lines(one, other, ground):
    """The least of two fronts of a ground, which is what all their spots spread to."""
    if len(one) == 0 or len(other) == 0:
        return one + other
    return let_be(lower_line(reach_on(one, ground), reach_on(other, ground)), ground)


def let_through(front, one, other, window):
    """The first moments of all spots behind a front of one that other has, and the window."""
    grounds = [other]
    if window is not None:
        grounds.append(window)
    rows = front
    for ground in grounds:
        rows = late_parts(rows, ground)
    for ground in [one, *grounds]:
        rows = timely_parts(rows, ground)
    return rows


def through_lines(front, one, other, window):
    """The front of other that comes through a link from a front of one."""
    return spread_lines(let_through(front, one, other, window), other)
