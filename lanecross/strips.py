"""What bodies take of a lane, and leave free of it, from cut to cut, in raw fractions.

An edge is a pair of points (moment, place), straight from the one to the other. Between two
neighbouring cuts no two edges change their order: there a strip is a pair of sides, left and
right, each the pair of its places at both cuts. Sides are compared by their middles.
"""

from lanecross.lines import between, crossing, is_crossed, is_straight, merged
from lanecross.reckon import add, greater, is_smaller, raw, smaller

ZERO = (0, 1)


def edges_of(piece):
    """The left and the right edge of a piece."""
    begin, end = raw(piece.begin), raw(piece.end)
    left = ((begin, raw(piece.left[0])), (end, raw(piece.left[1])))
    right = ((begin, raw(piece.right[0])), (end, raw(piece.right[1])))
    return (left, right)


def level_edge(place, end):
    """The edge of a lane, which stands still from moment 0 to the end of the level."""
    return ((ZERO, place), (end, place))


def rising(members):
    """Fractions, each once, rising."""
    if len(members) < 2:
        return list(members)
    middle = len(members) // 2
    return merged(rising(members[:middle]), rising(members[middle:]))


def meetings(one, other, end):
    """The moment, a list, at which two edges change their order within the level; none perhaps.

    Where they meet without it, one of them begins or ends, or the level does.
    """
    first = greater(ZERO, greater(one[0][0], other[0][0]))
    last = smaller(end, smaller(one[1][0], other[1][0]))
    if not is_smaller(first, last):
        return []
    begun, ended = [(at, between(one[0], one[1], at), between(other[0], other[1], at)) for at in (first, last)]
    if not is_crossed(begun, ended):
        return []
    return [crossing(begun, ended)[0]]


def cut_moments(bodies, wide, end):
    """The cuts of a lane with the edges of bodies, rising."""
    edges = [edge for body in bodies for edge in body]
    ends = [point[0] for edge in edges for point in edge]
    moments = [moment for moment in ends if not (is_smaller(moment, ZERO) or is_smaller(end, moment))]
    edges = [*edges, level_edge(ZERO, end), level_edge(wide, end)]
    for at, one in enumerate(edges):
        for other in edges[at + 1:]:
            moments.extend(meetings(one, other, end))
    return rising([ZERO, end, *moments])


def is_before(one, other):
    """Whether one side is left of another one, between the cuts."""
    return is_smaller(add(one[0], one[1]), add(other[0], other[1]))


def has_room(strip):
    """Whether a strip is more than a point, between the cuts."""
    return is_before(strip[0], strip[1])


def side(edge, first, last):
    """The places of an edge at two cuts."""
    return (between(edge[0], edge[1], first), between(edge[0], edge[1], last))


def within_lane(strip, wide):
    """What a lane has of a strip, a list of one strip or none."""
    left, right = strip
    if is_before(left, (ZERO, ZERO)):
        left = (ZERO, ZERO)
    if is_before((wide, wide), right):
        right = (wide, wide)
    if is_before(right, left):
        return []
    return [(left, right)]


def taken_strips(bodies, wide, first, last):
    """What bodies take of a lane between two neighbouring cuts, a strip for each of them."""
    found = []
    for left, right in bodies:
        if not (is_smaller(first, left[0][0]) or is_smaller(left[1][0], last)):
            found.extend(within_lane((side(left, first, last), side(right, first, last)), wide))
    return found


def sorted_strips(strips):
    """The strips by their left sides, ascending."""
    found = []
    for strip in strips:
        at = len(found)
        while at > 0 and is_before(strip[0], found[at - 1][0]):
            at -= 1
        found.insert(at, strip)
    return found


def united(strips):
    """The strips, ascending, those that touch made one."""
    found = []
    for left, right in sorted_strips(strips):
        if len(found) == 0 or is_before(found[-1][1], left):
            found.append((left, right))
        elif is_before(found[-1][1], right):
            found[-1] = (found[-1][0], right)
    return found


def gaps(strips, wide):
    """What strips with room leave of a lane, as far as it has room."""
    left = (ZERO, ZERO)
    found = []
    for strip in united([strip for strip in strips if has_room(strip)]):
        found.append((left, strip[0]))
        left = strip[1]
    found.append((left, (wide, wide)))
    return [strip for strip in found if has_room(strip)]


def free_strips(is_river, bodies, wide, first, last):
    """What is free of a lane between two neighbouring cuts, strips ascending."""
    taken = taken_strips(bodies, wide, first, last)
    if is_river:
        return united(taken)
    return gaps(taken, wide)


def goes_on(edge, first, last, places):
    """Whether a side goes straight on where an edge ends."""
    return edge[1] == (first, places[0]) and is_straight(edge[0], edge[1], (last, places[1]))


def continued(grounds, before, strip, first, last):
    """The index of one of the grounds before, pairs of edges, that a strip continues; None if it continues none."""
    for at in before:
        left, right = grounds[at]
        if goes_on(left, first, last, strip[0]) and goes_on(right, first, last, strip[1]):
            return at
    return None


def ground_edges(is_river, bodies, wide, cuts):
    """The pieces of the ground, as pairs of edges, by their begins and from left to right."""
    grounds = []
    before = []
    for first, last in zip(cuts, cuts[1:]):
        here = []
        for strip in free_strips(is_river, bodies, wide, first, last):
            at = continued(grounds, before, strip, first, last)
            left, right = (last, strip[0][1]), (last, strip[1][1])
            if at is None:
                at = len(grounds)
                grounds.append((((first, strip[0][0]), left), ((first, strip[1][0]), right)))
            else:
                grounds[at] = ((grounds[at][0][0], left), (grounds[at][1][0], right))
            here.append(at)
        before = here
    return grounds


def free_places(is_river, bodies, wide, cuts, moment):
    """The free places of a lane at a moment, pairs ascending; those that touch are one."""
    found = []
    for first, last in zip(cuts, cuts[1:]):
        if is_smaller(moment, first) or is_smaller(last, moment):
            continue
        for left, right in free_strips(is_river, bodies, wide, first, last):
            low = between((first, left[0]), (last, left[1]), moment)
            high = between((first, right[0]), (last, right[1]), moment)
            found.append(((low, low), (high, high)))
    return [(left[0], right[0]) for left, right in united(found)]
