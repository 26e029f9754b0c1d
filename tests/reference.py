"""A second way to all answers about pieces and fronts, place by place, for comparison.

It looks at no lines: at each place it takes the moments that inequalities leave, and the
least of all cones from spots at all places at which anything could bend.
"""

from fractions import Fraction
from itertools import combinations

from lanecross.pieces import Piece


def frac(number):
    return Fraction(number) if isinstance(number, int) else Fraction(number[0], number[1])


def number(fraction):
    if fraction is None:
        return None
    if fraction.denominator == 1:
        return fraction.numerator
    return (fraction.numerator, fraction.denominator)


def edge_at(piece, edge, moment):
    begin, end = frac(piece.begin), frac(piece.end)
    one, other = frac(edge[0]), frac(edge[1])
    return one + (other - one) * (moment - begin) / (end - begin)


def has(piece, moment, place):
    if not frac(piece.begin) <= moment <= frac(piece.end):
        return False
    return edge_at(piece, piece.left, moment) <= place <= edge_at(piece, piece.right, moment)


def moments(piece, place):
    """The first and the last moment at a place, by the inequalities of both edges; None."""
    low, high = frac(piece.begin), frac(piece.end)
    for edge, sign in ((piece.left, 1), (piece.right, -1)):
        # sign * (edge(t) - place) <= 0 for all t from low to high
        one = sign * (frac(edge[0]) - place)
        other = sign * (frac(edge[1]) - place)
        if one > 0 and other > 0:
            return None
        if one <= 0 and other <= 0:
            continue
        zero = frac(piece.begin) + (frac(piece.end) - frac(piece.begin)) * one / (one - other)
        if one > 0:
            low = max(low, zero)
        else:
            high = min(high, zero)
    return (low, high) if low <= high else None


def row_at(row, place):
    """The moment that a row of stretches tells for a place; None."""
    for stretch in row:
        corners = [(frac(x), frac(t)) for x, t in stretch]
        for x, t in corners:
            if x == place:
                return t
        for (x, t), (y, u) in zip(corners, corners[1:]):
            if x < place < y:
                return t + (u - t) * (place - x) / (y - x)
    return None


def segments_of(row):
    for stretch in row:
        corners = [(frac(x), frac(t)) for x, t in stretch]
        yield from zip(corners, corners[1:] or corners)


def sides_of(piece):
    begin, end = frac(piece.begin), frac(piece.end)
    left = [frac(place) for place in piece.left]
    right = [frac(place) for place in piece.right]
    yield (left[0], begin), (left[1], end)
    yield (right[0], begin), (right[1], end)
    yield (left[0], begin), (right[0], begin)
    yield (left[1], end), (right[1], end)


def crossing_places(segments):
    """All places of the ends of segments, and those at which two of their lines meet."""
    found = set()
    slanted = []
    for one, other in segments:
        found.update((one[0], other[0]))
        if one[0] != other[0]:
            slope = (other[1] - one[1]) / (other[0] - one[0])
            slanted.append((slope, one[1] - slope * one[0]))
    for (slope, height), (other_slope, other_height) in combinations(sorted(set(slanted)), 2):
        if slope != other_slope:
            found.add((other_height - height) / (slope - other_slope))
    return sorted(found)


def told_by(spot_at, places, piece, place):
    """The first moment at a place of a piece for whoever stands on the spots told, or None."""
    own = moments(piece, place)
    if own is None:
        return None
    ways = [spot_at(other) + abs(place - other) for other in {*places, place} if spot_at(other) is not None]
    if not ways:
        return None
    moment = max(own[0], min(ways))
    return moment if moment <= own[1] else None


class Spread:
    """What a row of stretches spreads to, place by place."""

    def __init__(self, piece, row):
        self.piece, self.row = piece, row
        self.segments = [*segments_of(row), *sides_of(piece)]
        self.places = crossing_places(self.segments)

    def spot_at(self, place):
        return row_at(self.row, place)

    def at(self, place):
        return told_by(self.spot_at, self.places, self.piece, place)


class Through:
    """What comes through a link, place by place."""

    def __init__(self, front, one, other, window):
        self.front, self.one, self.piece = front, one, other
        self.grounds = [one, other] + ([] if window is None else [window])
        self.segments = list(segments_of(front))
        for piece in self.grounds:
            self.segments.extend(sides_of(piece))
        self.places = crossing_places(self.segments)
        self.known = {}

    def spot_at(self, place):
        if place not in self.known:
            self.known[place] = self.found_at(place)
        return self.known[place]

    def found_at(self, place):
        low = row_at(self.front, place)
        if low is None:
            return None
        for piece in self.grounds:
            own = moments(piece, place)
            if own is None:
                return None
            low = max(low, own[0])
        return low if all(low <= moments(piece, place)[1] for piece in self.grounds) else None

    def at(self, place):
        return told_by(self.spot_at, self.places, self.piece, place)


def places_to_ask(rows, piece):
    """Places at, between and just beside all corners of rows, and beyond the piece."""
    found = {frac(place) for edge in (piece.left, piece.right) for place in edge}
    for row in rows:
        found.update(frac(corner[0]) for stretch in row for corner in stretch)
    found = sorted(found)
    between = [(one + other) / 2 for one, other in zip(found, found[1:])]
    thirds = [(2 * one + other) / 3 for one, other in zip(found, found[1:])]
    beside = [place + step for place in found for step in (Fraction(-1, 1000003), Fraction(1, 1000003))]
    return sorted({*found, *between, *thirds, *beside})


def random_number(source, wide, below):
    under = source.choice((1, 1, below))
    return number(Fraction(source.randint(-wide * under, wide * under), under))


def random_piece(source, wide=6, below=3):
    """A piece of any kind: wide, narrow, pointed, a point, standing, slow or swift."""
    begin, end = sorted(source.sample(range(-wide, wide + 1), 2))
    kind = source.randint(0, 6)
    if kind == 0:
        edge = [random_number(source, wide, below) for _ in range(2)]
        return Piece(begin, end, edge, edge)
    if kind == 1:
        # paces of just 1, 0 or -1
        pace = source.choice((1, 0, -1))
        left = source.randint(-wide, wide)
        room = source.choice((0, 1, 3))
        far = left + pace * (end - begin)
        return Piece(begin, end, (left, far), (left + room, far + room))
    first = sorted((frac(random_number(source, wide, below)) for _ in range(2)))
    last = sorted((frac(random_number(source, wide, below)) for _ in range(2)))
    if kind == 2:
        first[1] = first[0]
    if kind == 3:
        last[1] = last[0]
    return Piece(begin, end, [number(first[0]), number(last[0])], [number(first[1]), number(last[1])])


def random_row(source, piece, most=4):
    """A row of stretches of spots of a piece, in no order but that of its places."""
    bounds = [frac(place) for edge in (piece.left, piece.right) for place in edge]
    low, high = min(bounds), max(bounds)
    places = sorted({low + (high - low) * Fraction(source.randint(0, 12), 12) for _ in range(most * 2)})
    row = []
    for place in places:
        own = moments(piece, place)
        moment = own[0] + (own[1] - own[0]) * Fraction(source.randint(0, 4), 4)
        corner = (place, moment)
        stretch = row[-1] if row and source.randint(0, 2) else None
        if stretch is None or (len(stretch) > 1 and is_between(stretch[-2], stretch[-1], corner)):
            row.append([corner])
        else:
            stretch.append(corner)
    return tuple(tuple((number(x), number(t)) for x, t in stretch) for stretch in row)


def is_between(one, middle, other):
    return (middle[1] - one[1]) * (other[0] - middle[0]) == (other[1] - middle[1]) * (middle[0] - one[0])
