"""Pieces of ground, from one moment to another, between two edges that go straight."""

from lanecross.checks import is_number, is_row_of
from lanecross.errors import BadNumber, BadPiece, Misfit
from lanecross.lines import between, moment_at
from lanecross.numerals import numeral
from lanecross.papers import fixed
from lanecross.reckon import is_smaller, negative, raw, told
from lanecross.texts import Reader


class Piece:
    """A piece of ground. It never changes."""

    def __init__(self, begin, end, left, right):
        if not is_number(begin):
            raise BadNumber("begin")
        if not is_number(end):
            raise BadNumber("end")
        if not is_edge(left):
            raise BadNumber("left")
        if not is_edge(right):
            raise BadNumber("right")
        if not is_smaller(raw(begin), raw(end)):
            raise Misfit("end")
        if is_smaller(raw(right[0]), raw(left[0])) or is_smaller(raw(right[1]), raw(left[1])):
            raise Misfit("right")
        self.begin = fixed(begin)
        self.end = fixed(end)
        self.left = fixed(left)
        self.right = fixed(right)

    def __eq__(self, other):
        return isinstance(other, Piece) and piece_numbers(self) == piece_numbers(other)

    def __str__(self):
        return " ".join(piece_items(self))

    @staticmethod
    def read(text):
        """The piece whose text this is."""
        reader = Reader(text)
        found = piece_from(reader)
        reader.close()
        return found

    def has(self, moment, place):
        """Whether the piece has this spot."""
        if not is_number(moment):
            raise BadNumber("moment")
        if not is_number(place):
            raise BadNumber("place")
        return has_spot(self, raw(moment), raw(place))

    def backward(self):
        """The piece turned backward."""
        begin = told(negative(raw(self.end)))
        end = told(negative(raw(self.begin)))
        return Piece(begin, end, self.left[::-1], self.right[::-1])


def is_edge(value):
    """Whether this is a pair of numbers."""
    return is_row_of(value, 2) and is_number(value[0]) and is_number(value[1])


def piece_numbers(piece):
    """All that makes a piece, a tuple, which may be a key."""
    return (piece.begin, piece.end, piece.left, piece.right)


def piece_items(piece):
    """The items of the text of a piece."""
    return [numeral(number) for number in [piece.begin, piece.end, *piece.left, *piece.right]]


def piece_text(piece):
    """The text of a piece."""
    return " ".join(piece_items(piece))


def piece_from(reader):
    """Takes the items of a piece."""
    begin = reader.number()
    end = reader.number_above(begin)
    left = [reader.number(), reader.number()]
    right = [reader.number_from(left[0]), reader.number_from(left[1])]
    return Piece(begin, end, left, right)


def edges_at(piece, moment):
    """The raw places of both edges at a raw moment; None if the piece is not there."""
    begin, end = raw(piece.begin), raw(piece.end)
    if is_smaller(moment, begin) or is_smaller(end, moment):
        return None
    left, right = piece.left, piece.right
    first = between((begin, raw(left[0])), (end, raw(left[1])), moment)
    last = between((begin, raw(right[0])), (end, raw(right[1])), moment)
    return (first, last)


def has_spot(piece, moment, place):
    """Whether a piece has the spot of a raw moment and place."""
    edges = edges_at(piece, moment)
    if edges is None:
        return False
    return not (is_smaller(place, edges[0]) or is_smaller(edges[1], place))


def first_line(piece):
    """The line of all first moments of a piece: along an edge, the begin, and along an edge."""
    begin, end = raw(piece.begin), raw(piece.end)
    return hull_line([raw(place) for place in [*piece.left, *piece.right]], begin, end)


def last_line(piece):
    """The line of all last moments of a piece, which are the first ones seen from its end."""
    begin, end = raw(piece.begin), raw(piece.end)
    return hull_line([raw(place) for place in [*piece.left[::-1], *piece.right[::-1]]], end, begin)


def hull_line(places, near, far):
    """The line from edge to edge along the near moment, and farther along the edges that go outward.

    The places are those of the left edge at the near and the far moment, then of the right one.
    """
    left, left_far, right, right_far = places
    points = []
    if is_smaller(left_far, left):
        points.append((left_far, far))
    points.append((left, near))
    if is_smaller(left, right):
        points.append((right, near))
    if is_smaller(right, right_far):
        points.append((right_far, far))
    return points


def at_moment(piece, moment):
    """The places of both edges at a moment; None if the piece is not there then."""
    if not isinstance(piece, Piece):
        raise BadPiece("piece")
    if not is_number(moment):
        raise BadNumber("moment")
    edges = edges_at(piece, raw(moment))
    if edges is None:
        return None
    return (told(edges[0]), told(edges[1]))


def told_at(line, place):
    """The moment that a line tells for a place that a caller passed."""
    if not is_number(place):
        raise BadNumber("place")
    found = moment_at(line, raw(place))
    if found is None:
        return None
    return told(found)


def first_at(piece, place):
    """The first moment at which a piece has a place; None if it never has it."""
    if not isinstance(piece, Piece):
        raise BadPiece("piece")
    return told_at(first_line(piece), place)


def last_at(piece, place):
    """The last moment at which a piece has a place; None if it never has it."""
    if not isinstance(piece, Piece):
        raise BadPiece("piece")
    return told_at(last_line(piece), place)
