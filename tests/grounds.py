"""A second way to cuts, grounds and the worlds of levels, by fractions and the words of the document; and drawn levels."""

from fractions import Fraction
from itertools import combinations

from lanecross.errors import Misfit
from lanecross.lanes import Body, Lane
from lanecross.levels import Level
from lanecross.pieces import Piece
from reference import edge_at, frac, number


def there(lane, keys):
    return [body.piece for body in lane.bodies if body.lock is None or body.lock not in keys]


def line_of(piece, edge):
    """An edge as (begin, end, height, pace): its place at a moment t is height + pace * t."""
    begin, end = frac(piece.begin), frac(piece.end)
    pace = (frac(edge[1]) - frac(edge[0])) / (end - begin)
    return (begin, end, frac(edge[0]) - pace * begin, pace)


def cuts_by_words(lane, end, keys=()):
    """The cuts, rising: for each two edges the one moment at which they are at one place, if there is one."""
    end = frac(end)
    lines = [line_of(piece, edge) for piece in there(lane, keys) for edge in (piece.left, piece.right)]
    found = {Fraction(0), end} | {moment for line in lines for moment in line[:2]}
    # The lane's own edges are there for the whole level.
    lines += [(Fraction(0), end, Fraction(0), Fraction(0)), (Fraction(0), end, frac(lane.wide), Fraction(0))]
    for one, other in combinations(lines, 2):
        if one[3] != other[3]:
            moment = (other[2] - one[2]) / (one[3] - other[3])
            if max(one[0], other[0]) <= moment <= min(one[1], other[1]):
                found.add(moment)
    return sorted(moment for moment in found if 0 <= moment <= end)


def merged_pairs(pairs):
    found = []
    for low, high in sorted(pairs):
        if found and low <= found[-1][1]:
            found[-1][1] = max(found[-1][1], high)
        else:
            found.append([low, high])
    return [tuple(pair) for pair in found]


def free_between(lane, keys, moment):
    """The free places at a moment that is no cut, pairs ascending."""
    wide = frac(lane.wide)
    pairs = [(edge_at(piece, piece.left, moment), edge_at(piece, piece.right, moment)) for piece in there(lane, keys)
             if frac(piece.begin) < moment < frac(piece.end)]
    if lane.kind == "river":
        return merged_pairs([(max(low, Fraction(0)), min(high, wide)) for low, high in pairs if low <= wide and high >= 0])
    found, at = [], Fraction(0)
    for low, high in merged_pairs([pair for pair in pairs if pair[0] < pair[1]]):
        if low > at:
            found.append((at, min(low, wide)))
        at = max(at, high)
    found.append((at, wide))
    return [(low, high) for low, high in found if low < high and low < wide]


def strips_between(lane, keys, first, last):
    """What is free between two neighbouring cuts: pairs of edges, each the pair of places at both cuts.

    All edges are straight there and keep their order, so two moments between tell them wholly.
    """
    one, other = first + (last - first) / 3, last - (last - first) / 3
    found = []
    for pair, later in zip(free_between(lane, keys, one), free_between(lane, keys, other)):
        found.append(tuple((2 * early - late, 2 * late - early) for early, late in zip(pair, later)))
    return found


def free_by_words(lane, end, keys, moment):
    """The free places at any moment: what the strips ahead and behind have of it."""
    cuts = cuts_by_words(lane, end, keys)
    pairs = []
    for first, last in zip(cuts, cuts[1:]):
        if first <= moment <= last:
            way = (moment - first) / (last - first)
            for left, right in strips_between(lane, keys, first, last):
                pairs.append((left[0] + (left[1] - left[0]) * way, right[0] + (right[1] - right[0]) * way))
    return merged_pairs(pairs)


def ground_by_words(lane, end, keys=()):
    """The pieces of the ground, joined one pair after another, and put in order at last."""
    cuts = cuts_by_words(lane, end, keys)
    rows = [(first, last, *strip) for first, last in zip(cuts, cuts[1:]) for strip in strips_between(lane, keys, first, last)]
    joined = True
    while joined:
        joined = False
        for one in rows:
            for other in rows:
                if one[1] == other[0] and all(one[side][1] == other[side][0] and pace(one, side) == pace(other, side) for side in (2, 3)):
                    rows = [row for row in rows if row is not one and row is not other]
                    rows.append((one[0], other[1], (one[2][0], other[2][1]), (one[3][0], other[3][1])))
                    joined = True
                    break
            if joined:
                break
    rows.sort(key=lambda row: (row[0], row[2][0], pace(row, 2)))
    return [Piece(number(row[0]), number(row[1]), [number(at) for at in row[2]], [number(at) for at in row[3]]) for row in rows]


def pace(row, side):
    return (row[side][1] - row[side][0]) / (row[1] - row[0])


def lots(many):
    return [(), (0,), (1,), (0, 1)] if many == 2 else [(), (0,)][:many + 1]


def shared_moments(pieces):
    """The first and the last moment at which pieces have a spot in common, by all moments at which that could change."""
    low, high = max(frac(piece.begin) for piece in pieces), min(frac(piece.end) for piece in pieces)
    lines = [line_of(piece, edge) for piece in pieces for edge in (piece.left, piece.right)]
    moments = {low, high} | {(other[2] - one[2]) / (one[3] - other[3]) for one, other in combinations(lines, 2) if one[3] != other[3]}
    found = [moment for moment in moments if low <= moment <= high
             and max(edge_at(piece, piece.left, moment) for piece in pieces) <= min(edge_at(piece, piece.right, moment) for piece in pieces)]
    return (min(found), max(found)) if found else None


def world_by_words(level):
    """The whence, the pieces and the links of the world of a level."""
    plots = [(keys, at, piece) for keys in lots(len(level.keyring)) for at, lane in enumerate(level.lanes)
             for piece in ground_by_words(lane, level.end, keys)]
    links = []
    for at, (keys, lane, piece) in enumerate(plots):
        for index, (other_keys, other_lane, other) in enumerate(plots):
            shared = shared_moments([piece, other])
            if at == index or shared is None:
                continue
            windows = []
            if keys == other_keys:
                if abs(lane - other_lane) == 1 or lane == other_lane and shared[0] < frac(other.end):
                    links.append((at, index, None))
                windows = [window for one, two, window in level.lifts if (one, two) == (lane, other_lane)]
            elif lane == other_lane:
                windows = [window for key, (key_lane, window) in enumerate(level.keyring)
                           if key_lane == lane and key not in keys and sorted((*keys, key)) == list(other_keys)]
            links.extend((at, index, window) for window in windows if shared_moments([piece, other, window]) is not None)
    return [(keys, lane) for keys, lane, _ in plots], [piece for _, _, piece in plots], links


def drawn_number(source, low, high):
    below = source.choice((1, 1, 2, 3))
    return Fraction(source.randint(low * below, high * below), below)


def free_body(source, wide, end):
    begin = drawn_number(source, -2, int(end))
    left = [drawn_number(source, -2, wide + 1) for _ in range(2)]
    room = [source.choice((0, 1, 2, Fraction(1, 2))) for _ in range(2)]
    return begin, begin + source.choice((1, 2, Fraction(5, 2), 4)), left, [at + more for at, more in zip(left, room)]


def body_beside(source, one):
    """A body that touches another one: along an edge, at a corner, where it ends, going straight on or otherwise."""
    begin, end = frac(one.begin), frac(one.end)
    left, right = [frac(at) for at in one.left], [frac(at) for at in one.right]
    kind = source.randint(0, 5)
    if kind == 0:
        return begin, end, right, [at + 1 for at in right]
    if kind == 1:
        return begin, end, left, left
    if kind == 2:  # it goes straight on
        return end, end + (end - begin), [left[1], 2 * left[1] - left[0]], [right[1], max(2 * right[1] - right[0], 2 * left[1] - left[0])]
    if kind == 3:  # at another pace
        return end, end + 1, [left[1], left[1] + 1], [right[1], right[1] + 1]
    if kind == 4:  # over it, later, shorter
        return (begin + end) / 2, end + 1, [right[0], right[1]], [right[0] + 1, right[1] + 2]
    return begin, end, [right[0], right[1] - 1], [right[0] + 2, right[1]]


def drawn_lane(source, end=5, most=4, keys=2):
    wide = source.choice((2, 3, 4))
    bodies = []
    for _ in range(source.randint(0, most)):
        if bodies and source.randint(0, 1):
            begin, last, left, right = body_beside(source, source.choice(bodies).piece)
        else:
            begin, last, left, right = free_body(source, wide, end)
        piece = Piece(number(begin), number(last), [number(at) for at in left], [number(at) for at in right])
        bodies.append(Body(piece, source.choice((None, None, *range(keys)))))
    return Lane(source.choice(("road", "river")), number(Fraction(wide) + source.choice((0, 0, Fraction(1, 2)))), bodies)


def drawn_window(source):
    begin, place, room = source.randint(0, 3), source.randint(0, 3), source.randint(0, 2)
    shift = source.randint(-1, 1)
    return Piece(begin, begin + source.randint(1, 4), (place, place + shift), (place + room, place + shift + room))


def drawn_level(source, lanes=3, most=2, keys=2):
    """A level of some lanes that meet; its start is free."""
    while True:
        keyring = [(0, 0)] * source.randint(0, keys)
        many = source.randint(1, lanes)
        rows = [drawn_lane(source, 5, most, len(keyring)) for _ in range(many)]
        lifts, seen = [], set()
        for _ in range(source.randint(0, 3) if many > 1 else 0):
            one, other = source.sample(range(many), 2)
            window = drawn_window(source)
            if (one, other, str(window)) not in seen:
                seen.add((one, other, str(window)))
                lifts.append((one, other, window))
        keyring = [(source.randrange(many), drawn_window(source)) for _ in keyring]
        goals = [goal for goal in range(many) if source.randint(0, 1)] or [many - 1]
        try:
            return Level(rows, source.choice((4, 5, (11, 2))), lifts, keyring, (source.randrange(many), number(drawn_number(source, 0, 3))), goals)
        except Misfit:
            continue
