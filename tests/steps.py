"""A second way to the soonest moment, over places and moments step by step; and drawn worlds in which it is exact.

In these worlds all edges begin and end at integers, and stand or go at full pace. So all lines
along which anything can change go through integers, at pace 0 or 1, and all their meetings lie
at halves: whoever looks at each half place misses nothing.
"""

from fractions import Fraction
from heapq import heappop, heappush
from itertools import combinations

from lanecross.pieces import Piece
from lanecross.worlds import World
from reference import has, moments, number

HALF = Fraction(1, 2)


def even_piece(source, begin, end, place):
    """A piece whose edges stand or go at full pace."""
    time = end - begin
    paces = sorted(source.choice((-1, 0, 0, 1)) for _ in range(2))
    if source.randint(0, 3) == 0:
        paces = paces[::-1]
    room = source.choice((0, 1, 2, 3)) + max(0, (paces[0] - paces[1]) * time)
    return Piece(begin, end, (place, place + paces[0] * time), (place + room, place + room + paces[1] * time))


def even_window(source):
    begin = source.randint(0, 6)
    return even_piece(source, begin, begin + source.randint(1, 4), source.randint(0, 6))


def even_world(source, most=4):
    """A world of such pieces, with windows and without: from a first one rather to the right, to a last one that is a goal."""
    many = source.randint(2, most)
    pieces = []
    for at in range(many):
        begin, place = source.randint(0, 3), at if source.randint(0, 2) else source.randint(0, many)
        pieces.append(even_piece(source, begin, begin + source.randint(3, 8), place + source.randint(-1, 1)))
    links = []
    for one in range(many):
        for other in range(many):
            likely = (0, 1, 1, 1, 2) if abs(one - other) < 3 else (0, 0, 0, 1)
            for _ in range(source.choice(likely) if one != other else 0):
                window = even_window(source) if source.randint(0, 3) == 0 else None
                if all(link != (one, other, window) for link in links):
                    links.append((one, other, window))
    goals = [goal for goal in range(many) if goal == many - 1 or source.randint(0, 9) == 0]
    return World(pieces, links, (pieces[0].begin, pieces[0].left[0], 0), goals)


def ferries(source):
    """A bank, some ground side by side that begins now or then, and a far shore to which only this leads."""
    many = source.randint(1, 4)
    pieces = [Piece(0, 12, (0, 0), (2, 2)), Piece(0, 12, (5, 5), (7, 7))]
    for _ in range(many):
        begin = source.randint(0, 4)
        if source.randint(0, 1):
            pieces.append(Piece(begin, source.randint(begin + 2, 10), (1, 1), (6, 6)))
        else:
            pieces.append(Piece(begin, begin + 4, (0, 4), (1, 5)))
    links = [(0, at, None) for at in range(2, many + 2)] + [(at, 1, None) for at in range(2, many + 2)]
    links += [(2, at, even_window(source)) for at in range(3, many + 2) if source.randint(0, 1)]
    return World(pieces, links, (0, 1, 0), [1])


def arrivals(world, barred_pieces=(), barred_links=()):
    """The first moments at pieces and half places, by a queue of spots; some pieces have no links, some links are gone."""
    moment, place, piece = world.start
    queue, found = [(Fraction(moment), Fraction(place), piece)], {}
    while queue:
        moment, place, piece = heappop(queue)
        if (piece, place) in found:
            continue
        found[piece, place] = moment
        for beside in (place - HALF, place + HALF):
            own = moments(world.pieces[piece], beside)
            if own is not None and max(own[0], moment + HALF) <= own[1]:
                heappush(queue, (max(own[0], moment + HALF), beside, piece))
        for at, (one, other, window) in enumerate(world.links):
            if one != piece or at in barred_links or one in barred_pieces or other in barred_pieces:
                continue
            grounds = [world.pieces[one], world.pieces[other]] + ([] if window is None else [window])
            owns = [moments(ground, place) for ground in grounds]
            if None not in owns and max(moment, *[own[0] for own in owns]) <= min(own[1] for own in owns):
                heappush(queue, (max(moment, *[own[0] for own in owns]), place, other))
    return found


def soonest_by_steps(world, barred_pieces=(), barred_links=()):
    """The soonest moment, a fraction; None."""
    return min((moment for (piece, _), moment in arrivals(world, barred_pieces, barred_links).items() if piece in world.goals), default=None)


def less(world, barred_pieces=(), barred_links=()):
    """The world without the links of some pieces, and without some links."""
    links = [link for at, link in enumerate(world.links)
             if at not in barred_links and link[0] not in barred_pieces and link[1] not in barred_pieces]
    return World(world.pieces, links, world.start, world.goals)


def in_question(world):
    return [at for at in range(len(world.pieces)) if at != world.start[2] and at not in world.goals]


def all_lots(numbers):
    return [lot for many in range(len(numbers) + 1) for lot in combinations(numbers, many)]


def bars(world, is_won):
    """All bars, by trial of all lots, in the order of the document."""
    return [lot for lot in all_lots(in_question(world)) if not is_won(lot)]


def delay(world, soonest, piece, by):
    """The delay of a piece by some way to the soonest moment without it."""
    moment = by(world, piece)
    return None if moment is None else number(moment - soonest)


def spots_of(world):
    """All spots at half moments and places, with their pieces."""
    for at, piece in enumerate(world.pieces):
        for moment in range(2 * piece.begin, 2 * piece.end + 1):
            for place in range(-40, 60):
                if has(piece, moment * HALF, place * HALF):
                    yield moment * HALF, place * HALF, at
