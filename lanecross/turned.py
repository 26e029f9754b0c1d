"""Worlds that are turned: mirrored, moved, stretched, backward, with less or more."""

from lanecross.checks import is_number
from lanecross.errors import BadNumber, BadPiece, BadWorld
from lanecross.numbers import is_less, minus, plus, times
from lanecross.pieces import Piece
from lanecross.worlds import World, check_number_of_piece, check_station, check_world

# A turn of moments or of places is a pair: what each one is multiplied by, and what is added then.
KEPT = (1, 0)
OPPOSITE = (-1, 0)


def turned_number(number, turn):
    """A moment or a place, turned."""
    factor, shift = turn
    return plus(times(number, factor), shift)


def turned_piece(piece, moments, places):
    """A piece, or a window that may be None, with its moments and its places turned."""
    if piece is None:
        return None
    begin, end = [turned_number(moment, moments) for moment in (piece.begin, piece.end)]
    left = [turned_number(place, places) for place in piece.left]
    right = [turned_number(place, places) for place in piece.right]
    if is_less(places[0], 0):
        return Piece(begin, end, right, left)
    return Piece(begin, end, left, right)


def turned_world(world, moments, places):
    """A world with all its moments and all its places turned."""
    pieces = [turned_piece(piece, moments, places) for piece in world.pieces]
    links = [(one, other, turned_piece(window, moments, places)) for one, other, window in world.links]
    moment, place, piece = world.start
    start = (turned_number(moment, moments), turned_number(place, places), piece)
    return World(pieces, links, start, world.goals)


def mirrored(world):
    """The world with the other sign at each place."""
    check_world(world)
    return turned_world(world, KEPT, OPPOSITE)


def moved(world, moment, place):
    """The world with all moments and all places grown by a number each."""
    check_world(world)
    if not is_number(moment):
        raise BadNumber("moment")
    if not is_number(place):
        raise BadNumber("place")
    return turned_world(world, (1, moment), (1, place))


def stretched(world, factor):
    """The world with all moments and places multiplied by a number above 0."""
    check_world(world)
    if not is_number(factor) or not is_less(0, factor):
        raise BadNumber("factor")
    return turned_world(world, (factor, 0), (factor, 0))


def backward_window(window):
    """A window turned backward; None stays."""
    if window is None:
        return None
    return window.backward()


def backward(world, start, goals):
    """The world turned backward, from a station of the world as it stands, to other goals."""
    check_world(world)
    check_station(start, len(world.pieces), "start")
    moment, place, piece = start
    # World itself refuses wrong goals, and then a start that does not fit: backward it fits as it did.
    pieces = [each.backward() for each in world.pieces]
    links = [(other, one, backward_window(window)) for one, other, window in world.links]
    return World(pieces, links, (minus(0, moment), place, piece), goals)


def with_just(world, links):
    """The world with just these links."""
    return World(world.pieces, links, world.start, world.goals)


def without_pieces(world, numbers):
    """The world without the links that lead from some pieces or to them."""
    return with_just(world, [link for link in world.links if link[0] not in numbers and link[1] not in numbers])


def without(world, piece):
    """The world without the links that lead from a piece or to it."""
    check_world(world)
    check_number_of_piece(world, piece)
    return without_pieces(world, [piece])


def with_more(world, pieces, links):
    """The world with pieces and links more, behind all others."""
    if not isinstance(links, (list, tuple)):
        raise BadWorld("links")
    return World([*world.pieces, *pieces], [*world.links, *links], world.start, world.goals)


def with_piece(world, piece, links):
    """The world with one piece more, and links more, which may lead from and to it."""
    check_world(world)
    if not isinstance(piece, Piece):
        raise BadPiece("piece")
    return with_more(world, [piece], links)


def with_links(world, links):
    """The world with links more."""
    check_world(world)
    return with_more(world, [], links)
