"""Lanes with bodies, and the ground that these leave, or make, for those who have some keys."""

from lanecross.checks import is_lot, is_number, is_within
from lanecross.errors import BadLevel, BadNumber, BadPiece
from lanecross.pieces import Piece
from lanecross.reckon import is_smaller, raw, told
from lanecross.strips import cut_moments, edges_of, free_places, ground_edges

MOST_BODIES = 24
MOST_KEYS = 2


class Body:
    """A body of a lane, with the number of the key that takes it away, or None. It never changes."""

    def __init__(self, piece, lock=None):
        if not isinstance(piece, Piece):
            raise BadPiece("piece")
        if lock is not None and not is_within(lock, 0, MOST_KEYS - 1):
            raise BadNumber("lock")
        self.piece = piece
        self.lock = lock

    def __eq__(self, other):
        return isinstance(other, Body) and self.piece == other.piece and self.lock == other.lock


class Lane:
    """A road or a river, as wide as a number, with bodies. It never changes."""

    def __init__(self, kind, wide, bodies=()):
        if not isinstance(kind, str) or kind not in ("road", "river"):
            raise BadLevel("kind")
        if not is_above_zero(wide):
            raise BadNumber("wide")
        if not are_bodies(bodies):
            raise BadLevel("bodies")
        self.kind = kind
        self.wide = told(raw(wide))
        self.bodies = tuple(bodies)

    def __eq__(self, other):
        return isinstance(other, Lane) and lane_parts(self) == lane_parts(other)


def is_above_zero(value):
    """Whether this is a number above 0."""
    return is_number(value) and is_smaller((0, 1), raw(value))


def are_bodies(value):
    """Whether this is a list of bodies, not too many, perhaps of none."""
    if not isinstance(value, (list, tuple)) or len(value) > MOST_BODIES:
        return False
    return all([isinstance(body, Body) for body in value])


def lane_parts(lane):
    """All that makes a lane."""
    return (lane.kind, lane.wide, lane.bodies)


def bodies_there(lane, keys):
    """The edges of the bodies that are there for those who have these keys."""
    return [edges_of(body.piece) for body in lane.bodies if body.lock is None or body.lock not in keys]


def lane_cuts(lane, end, keys):
    """The raw cuts of a lane."""
    return cut_moments(bodies_there(lane, keys), raw(lane.wide), raw(end))


def piece_of(left, right):
    """The piece between two raw edges, from the points where they begin to those where they end."""
    places = [(told(edge[0][1]), told(edge[1][1])) for edge in (left, right)]
    return Piece(told(left[0][0]), told(left[1][0]), places[0], places[1])


def lane_ground(lane, end, keys):
    """The pieces of the ground of a lane, a list."""
    edges = ground_edges(lane.kind == "river", bodies_there(lane, keys), raw(lane.wide), lane_cuts(lane, end, keys))
    return [piece_of(left, right) for left, right in edges]


def lane_free(lane, end, keys, moment):
    """The free places of a lane at a raw moment, as raw pairs."""
    bodies, cuts = bodies_there(lane, keys), lane_cuts(lane, end, keys)
    return free_places(lane.kind == "river", bodies, raw(lane.wide), cuts, moment)


def check_ground(lane, end, keys):
    """Raises the error of what is no lane, no end of a level, no lot of keys."""
    if not isinstance(lane, Lane):
        raise BadLevel("lane")
    if not is_above_zero(end):
        raise BadNumber("end")
    if not is_lot(keys, MOST_KEYS):
        raise BadNumber("keys")


def cuts_of(lane, end, keys=()):
    """The cuts of a lane, ascending."""
    check_ground(lane, end, keys)
    return tuple([told(cut) for cut in lane_cuts(lane, end, keys)])


def ground_of(lane, end, keys=()):
    """The pieces of the ground of a lane for those who have these keys."""
    check_ground(lane, end, keys)
    return tuple(lane_ground(lane, end, keys))
