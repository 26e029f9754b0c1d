"""Worlds, plays and stations drawn at random, and a second way to plays, by fractions."""

from fractions import Fraction

from lanecross.pieces import Piece
from lanecross.worlds import World
from reference import edge_at, frac, has, moments, number, random_number, random_piece


def piece_beside(source, piece):
    """A piece that shares an edge, an end, a corner, a part of an edge or a spot with another one."""
    begin, end = frac(piece.begin), frac(piece.end)
    kind = source.randint(0, 5)
    if kind == 0:
        more = source.choice((0, 1, Fraction(3, 2)))
        return Piece(piece.begin, piece.end, piece.right, [number(frac(place) + more) for place in piece.right])
    if kind == 1:
        low, high = frac(piece.left[1]), frac(piece.right[1])
        return Piece(piece.end, number(end + 3), (number(low - 1), number(low)), (number(high), number(high + 1)))
    if kind == 2:
        place = frac(piece.right[1])
        return Piece(piece.end, number(end + 2), (number(place), number(place)), (number(place + 2), number(place)))
    if kind == 3:
        place = (frac(piece.left[0]) + frac(piece.left[1])) / 2
        return Piece(number((begin + end) / 2), number(end + 1), (number(place), number(place)), (number(place), number(place + 1)))
    moment = begin + (end - begin) * Fraction(source.randint(0, 4), 4)
    place = edge_at(piece, source.choice((piece.left, piece.right)), moment)
    pace, room = Fraction(source.randint(-12, 12), source.choice((1, 2, 3))), source.choice((0, 0, 1, 2))
    # A piece that comes by at one spot, or lies there for some time.
    time = source.choice((1, Fraction(1, 2), 2))
    edge = (place - pace * time, place + pace * time)
    return Piece(number(moment - time), number(moment + time), [number(at) for at in edge], [number(at + room) for at in edge])


def spot_window(source, piece):
    """A window that has just one spot of a piece, at a corner of it."""
    moment, edge = source.choice(((piece.begin, piece.left), (piece.end, piece.right)))
    place = edge[0] if moment == piece.begin else edge[1]
    way = (place, number(frac(place) + 20))
    return Piece(moment, number(frac(moment) + 1), way, way)


def roomy_piece(source):
    """A piece with room that many others meet."""
    begin, edges = source.randint(-4, 2), [random_number(source, 4, 3) for _ in range(2)]
    return Piece(begin, begin + source.randint(3, 8), edges, [number(frac(place) + random_room(source)) for place in edges])


def random_room(source):
    return source.choice((1, 2, 4, Fraction(5, 2)))


def any_piece(source, others):
    kind = source.randint(0, 4)
    if kind < 2:
        return roomy_piece(source)
    if others and kind < 4:
        return piece_beside(source, source.choice(others))
    return random_piece(source)


def any_window(source, pieces):
    kind = source.randint(0, 5)
    if kind < 3:
        return None
    return spot_window(source, source.choice(pieces)) if kind == 3 else any_piece(source, pieces)


def spot_of(source, piece):
    """A spot that a piece has: at a corner, at an edge or between."""
    moment = frac(piece.begin) + (frac(piece.end) - frac(piece.begin)) * Fraction(source.randint(0, 6), 6)
    left, right = edge_at(piece, piece.left, moment), edge_at(piece, piece.right, moment)
    return number(moment), number(left + (right - left) * Fraction(source.randint(0, 4), 4))


def station_of(source, world):
    at = source.randrange(len(world.pieces))
    return (*spot_of(source, world.pieces[at]), at)


def drawn_world(source, most=5):
    """A world of pieces that meet, with windows and without."""
    pieces = []
    for _ in range(source.randint(1, most)):
        pieces.append(any_piece(source, pieces))
    many = len(pieces)
    links = []
    for one in range(many):
        for other in range(many):
            if one != other and source.randint(0, 3):
                links.append((one, other, any_window(source, (pieces[one], pieces[other]))))
                if source.randint(0, 5) == 0 and links[-1][2] is not None:
                    links.append((one, other, None))
    source.shuffle(links)
    at = source.randrange(many)
    moment, place = spot_of(source, pieces[at])
    if source.randint(0, 1):
        moment, place = pieces[at].begin, pieces[at].left[0]
    goals = [goal for goal in range(many) if source.randint(0, 2) == 0]
    return World(pieces, links, (moment, place, at), goals)


def lets(world, one, other, moment, place):
    """The numbers of all links from one piece to another that let a spot through."""
    if not has(world.pieces[other], moment, place):
        return []
    return [at for at, link in enumerate(world.links)
            if link[:2] == (one, other) and (link[2] is None or has(link[2], moment, place))]


def goes(world, one, other):
    (t, x, p), (u, y, q) = [(frac(station[0]), frac(station[1]), station[2]) for station in (one, other)]
    if u < t or not x - (u - t) <= y <= x + (u - t):
        return False
    if not has(world.pieces[p], t, x) or not has(world.pieces[p], u, y):
        return False
    return u > t if p == q else bool(lets(world, p, q, u, y))


def is_right_play(world, play):
    """Whether a list of stations of the right form is a play."""
    moment, place, piece = play[-1]
    return has(world.pieces[piece], frac(moment), frac(place)) and all(goes(world, one, other) for one, other in zip(play, play[1:]))


def place_at(play, moment):
    """The place and the piece of a play at a moment, by its legs; None."""
    found = None
    for (t, x, p), (u, y, _) in zip(play, [*play[1:], play[-1]]):
        t, x, u, y = frac(t), frac(x), frac(u), frac(y)
        if t <= moment <= u:
            found = (x if u == t else x + (y - x) * (moment - t) / (u - t), p)
    return found


def hop_ends(source, world, station):
    """Stations by links from a station, at some moment at which both pieces are there, and the window."""
    t, x, piece = frac(station[0]), frac(station[1]), station[2]
    found = []
    for one, other, window in world.links:
        grounds = [world.pieces[one], world.pieces[other]] + ([] if window is None else [window])
        low, high = max(t, *[frac(ground.begin) for ground in grounds]), min(frac(ground.end) for ground in grounds)
        if one == piece and low <= high:
            moment = low + (high - low) * Fraction(source.randint(0, 4), 4)
            places = [max(edge_at(ground, ground.left, moment) for ground in grounds), min(edge_at(ground, ground.right, moment) for ground in grounds)]
            found.append((number(moment), number(min(max(x, places[0]), places[1])), other))
    return found


def drawn_play(source, world, station, steps=8):
    """A play that begins with a station: waits, runs and hops, some at one spot."""
    play = [station]
    for _ in range(3 * steps):
        if len(play) > steps:
            break
        moment, place, piece = frac(play[-1][0]), frac(play[-1][1]), play[-1][2]
        time = source.choice((0, 0, Fraction(1, 2), Fraction(1, 3), 1, 2, 5))
        way = time * source.choice((0, 0, 1, -1, Fraction(1, 2), Fraction(-1, 3)))
        ends = [(number(moment + time), number(place + way), other) for other in range(len(world.pieces))]
        ends += [(number(own), number(place), piece) for own in moments(world.pieces[piece], place)[1:]]
        hops = [end for end in hop_ends(source, world, play[-1]) if goes(world, play[-1], end)]
        ends = hops if hops and source.randint(0, 2) else [end for end in ends if goes(world, play[-1], end)]
        if ends:
            play.append(source.choice(ends))
    return play


def with_stops(play, moments_between):
    """The play with more stations, on its legs, at those of some moments that are no station's."""
    found = [play[0]]
    for one, other in zip(play, play[1:]):
        for moment in moments_between:
            if frac(one[0]) < moment < frac(other[0]):
                place, piece = place_at([one, other], moment)
                found.append((number(moment), number(place), piece))
        found.append(other)
    return found


def times_of(play):
    """Moments at, between, ahead of and behind the stations of a play."""
    at = [frac(station[0]) for station in play]
    return sorted({*at, *[(one + other) / 2 for one, other in zip(at, at[1:])], *[(2 * one + other) / 3 for one, other in zip(at, at[1:])],
                   at[0] - Fraction(1, 7), at[-1] + Fraction(1, 7)})


def as_lists(value):
    """The value with lists in the place of tuples, all the way in."""
    if isinstance(value, (list, tuple)):
        return [as_lists(part) for part in value]
    return value
