"""Lines: lists of points (place, moment) by rising places, straight between neighbours.

All numbers are raw fractions [reckon]. A line has one point at least. Two lines are
compared at all places at which one of them bends, and where they meet: between two such
places one of them is nowhere below the other one.
"""

from lanecross.reckon import add, divide, greater, is_smaller, multiply, negative, smaller, subtract


def between(one, other, place):
    """The moment at a place on the straight line through two points."""
    way = divide(subtract(place, one[0]), subtract(other[0], one[0]))
    return add(one[1], multiply(way, subtract(other[1], one[1])))


def is_straight(one, middle, other):
    """Whether the middle one of three points by rising places lies on the line through the others."""
    rise = multiply(subtract(middle[1], one[1]), subtract(other[0], middle[0]))
    return rise == multiply(subtract(other[1], middle[1]), subtract(middle[0], one[0]))


def straightened_line(line):
    """The line without the points that lie between their neighbours."""
    kept = []
    for point in line:
        while len(kept) > 1 and is_straight(kept[-2], kept[-1], point):
            kept.pop()
        kept.append(point)
    return kept


def moments_at(line, places):
    """The moments of a line at rising places, all of which it has."""
    found = []
    at = 0
    for place in places:
        while at + 1 < len(line) and not is_smaller(place, line[at + 1][0]):
            at += 1
        if line[at][0] == place:
            found.append(line[at][1])
        else:
            found.append(between(line[at], line[at + 1], place))
    return found


def moment_at(line, place):
    """The moment of a line at a place; None if it does not have it."""
    if is_smaller(place, line[0][0]) or is_smaller(line[-1][0], place):
        return None
    return moments_at(line, [place])[0]


def merged(one, other):
    """The members of two rising lists of fractions, each once, rising."""
    found = []
    at = 0
    for member in one:
        while at < len(other) and is_smaller(other[at], member):
            found.append(other[at])
            at += 1
        if at < len(other) and other[at] == member:
            at += 1
        found.append(member)
    return found + other[at:]


def shared_places(one, other):
    """The places at which one of two lines bends or ends, and which both have, rising."""
    first = greater(one[0][0], other[0][0])
    last = smaller(one[-1][0], other[-1][0])
    places = merged([point[0] for point in one], [point[0] for point in other])
    return [place for place in places if not (is_smaller(place, first) or is_smaller(last, place))]


def is_crossed(one, other):
    """Whether two lines change their order strictly between two triples (place, moment, moment)."""
    if is_smaller(one[1], one[2]):
        return is_smaller(other[2], other[1])
    return is_smaller(one[2], one[1]) and is_smaller(other[1], other[2])


def crossing(one, other):
    """The triple at which two lines meet that change their order between two triples."""
    before = subtract(one[1], one[2])
    behind = subtract(other[1], other[2])
    way = divide(before, add(before, negative(behind)))
    place = add(one[0], multiply(way, subtract(other[0], one[0])))
    moment = add(one[1], multiply(way, subtract(other[1], one[1])))
    return (place, moment, moment)


def paired(one, other):
    """Triples (place, moment of one, moment of other) where both lines are, with all their meetings."""
    places = shared_places(one, other)
    triples = []
    for triple in zip(places, moments_at(one, places), moments_at(other, places)):
        if len(triples) > 0 and is_crossed(triples[-1], triple):
            triples.append(crossing(triples[-1], triple))
        triples.append(triple)
    return triples


def upper_line(one, other):
    """The later moments of two lines where both are; no points if they are nowhere both."""
    return [(place, greater(first, second)) for place, first, second in paired(one, other)]


def lower_line(one, other):
    """The earlier moments of two lines where both are; no points if they are nowhere both."""
    return [(place, smaller(first, second)) for place, first, second in paired(one, other)]


def is_nowhere_above(one, other):
    """Whether one line is at no later moment than another one, where both are."""
    return not any([is_smaller(second, first) for _, first, second in paired(one, other)])


def capped_lines(line, cap):
    """The parts of a line that lie nowhere above another one, a list of lines."""
    parts = []
    is_open = False
    for place, moment, bound in paired(line, cap):
        if is_smaller(bound, moment):
            is_open = False
        elif is_open:
            parts[-1].append((place, moment))
        else:
            parts.append([(place, moment)])
            is_open = True
    return parts


def is_covered(line, lines):
    """Whether one of some lines has all places of a line, at no later moments."""
    for cover in lines:
        if is_smaller(line[0][0], cover[0][0]) or is_smaller(cover[-1][0], line[-1][0]):
            continue
        return is_nowhere_above(cover, line)
    return False


def are_covered(lines, covers):
    """Whether all spots behind some lines are behind other ones."""
    return all([is_covered(line, covers) for line in lines])


def row_moment(lines, place):
    """The moment that lines tell for a place; None if they do not have it."""
    for line in lines:
        found = moment_at(line, place)
        if found is not None:
            return found
    return None


def lowest_corner(lines):
    """The point of lines with the least moment, of these that with the least place; None without one."""
    found = None
    for line in lines:
        for point in line:
            if found is None or is_smaller(point[1], found[1]):
                found = point
    return found


def opposite_lines(lines):
    """Lines with the sign of each moment exchanged."""
    return [[(place, negative(moment)) for place, moment in line] for line in lines]
