"""Worlds: pieces of ground, links between them, a start and goals."""

from lanecross.checks import is_lot, is_row_of, is_spot, is_within
from lanecross.errors import BadSpot, BadText, BadWorld, Misfit, NoPiece, TooMany, Twice
from lanecross.numbers import greatest
from lanecross.numerals import integer_text, numeral
from lanecross.papers import fixed
from lanecross.pieces import Piece, piece_numbers, piece_text
from lanecross.reckon import raw
from lanecross.texts import Reader
from lanecross.world_texts import parts_from

MOST_PIECES = 60
MOST_LINKS = 600


class World:
    """A world. It never changes."""

    def __init__(self, pieces, links, start, goals):
        if not are_pieces(pieces):
            raise BadWorld("pieces")
        check_links(links, len(pieces))
        check_station(start, len(pieces), "start")
        if not is_lot(goals, len(pieces)):
            raise BadWorld("goals")
        if not pieces[start[2]].has(start[0], start[1]):
            raise Misfit("start")
        if len(pieces) > MOST_PIECES:
            raise TooMany("pieces", MOST_PIECES)
        if len(links) > MOST_LINKS:
            raise TooMany("links", MOST_LINKS)
        twice = first_twice(links)
        if twice is not None:
            raise Twice(links[twice])
        self.pieces = tuple(pieces)
        self.links = fixed(links)
        self.start = fixed(start)
        self.goals = tuple(goals)
        self.end = greatest([piece.end for piece in pieces])

    def __eq__(self, other):
        return isinstance(other, World) and world_parts(self) == world_parts(other)

    def __str__(self):
        return " / ".join(part_texts(self))

    @staticmethod
    def read(text):
        """The world whose text this is."""
        reader = Reader(text)
        pieces, links, start, goals = parts_from(reader)
        try:
            return World(pieces, links, start, goals)
        except (Misfit, TooMany, Twice):
            raise BadText(0, len(reader.words) - 1) from None


def are_pieces(value):
    """Whether this is a list of pieces, one at least."""
    if not isinstance(value, (list, tuple)) or len(value) == 0:
        return False
    return all([isinstance(piece, Piece) for piece in value])


def is_link(value, many):
    """Whether this is a triple of two unlike numbers of so many pieces, and a window or None."""
    if not is_row_of(value, 3):
        return False
    one, other, window = value
    if not (is_within(one, 0, many - 1) and is_within(other, 0, many - 1)):
        return False
    return one != other and (window is None or isinstance(window, Piece))


def check_links(links, many):
    """Raises the error of what is no list of links between so many pieces."""
    if not isinstance(links, (list, tuple)):
        raise BadWorld("links")
    if not all([is_link(link, many) for link in links]):
        raise BadWorld("links")


def is_station(value, many):
    """Whether this is a triple of two numbers and the number of one of so many pieces."""
    return is_row_of(value, 3) and is_spot(value[:2]) and is_within(value[2], 0, many - 1)


def raw_spot(station):
    """The raw moment and place of a station."""
    return (raw(station[0]), raw(station[1]))


def check_station(value, many, part):
    """Raises the error of what is no triple of two numbers and the number of one of so many pieces."""
    if not is_station(value, many):
        raise BadSpot(part)


def first_twice(links):
    """The index of the first link that equals one before it; None if all are unlike."""
    seen = set()
    for at, (one, other, window) in enumerate(links):
        key = (one, other, None if window is None else piece_numbers(window))
        if key in seen:
            return at
        seen.add(key)
    return None


def world_parts(world):
    """All that makes a world."""
    return (world.pieces, world.links, world.start, world.goals)


def link_text(link):
    """The part of a link in the text of a world."""
    one, other, window = link
    ends = "link " + integer_text(one) + " " + integer_text(other)
    if window is None:
        return ends
    return ends + " piece " + piece_text(window)


def part_texts(world):
    """The parts of the text of a world."""
    pieces = ["piece " + piece_text(piece) for piece in world.pieces]
    links = [link_text(link) for link in world.links]
    start = " ".join(["start", *[numeral(number) for number in world.start]])
    goals = " ".join(["goals", *[integer_text(goal) for goal in world.goals]])
    return [*pieces, *links, start, goals]


def check_world(value):
    """Raises the error of what is no world."""
    if not isinstance(value, World):
        raise BadWorld("world")


def check_number_of_piece(world, value):
    """Raises the error of what is the number of no piece of a world."""
    if not is_within(value, 0, len(world.pieces) - 1):
        raise NoPiece(value)


def links_from(world, piece):
    """The numbers of the links that lead from a piece, ascending."""
    check_world(world)
    check_number_of_piece(world, piece)
    return tuple([at for at, link in enumerate(world.links) if link[0] == piece])
