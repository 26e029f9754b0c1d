"""Fronts: from which moment on each place of a piece can be had."""

from lanecross.checks import is_number
from lanecross.errors import BadFront, BadNumber, BadPiece, Misfit
from lanecross.lines import are_covered, is_straight, lowest_corner, row_moment
from lanecross.numerals import numeral
from lanecross.pieces import Piece, first_line, has_spot
from lanecross.reckon import is_smaller, raw, told
from lanecross.rows import is_row, raw_corners, raw_row, told_row
from lanecross.spreading import Ground, least_lines, spread_lines, through_lines
from lanecross.texts import Reader


def has_corners(piece, lines):
    """Whether a piece has all corners of raw lines, as spots."""
    return all([has_spot(piece, moment, place) for line in lines for place, moment in line])


def are_front_lines(piece, lines):
    """Whether raw lines are a front of a piece: they are spots of it that spread to themselves."""
    return has_corners(piece, lines) and spread_lines(lines, Ground(piece)) == lines


def is_front_of(piece, value):
    """Whether any value is a front of a piece."""
    return is_row(value) and are_front_lines(piece, raw_row(value))


def check_piece(value, part):
    """Raises the error of what is no piece."""
    if not isinstance(value, Piece):
        raise BadPiece(part)


def front_lines(piece, value, part):
    """The raw lines of a front of a piece that a caller passed."""
    if not is_front_of(piece, value):
        raise BadFront(part)
    return raw_row(value)


def row_lines(value, part):
    """The raw lines of a row of stretches that a caller passed."""
    if not is_row(value):
        raise BadFront(part)
    return raw_row(value)


def raw_number(value, part):
    """The raw fraction of a number that a caller passed."""
    if not is_number(value):
        raise BadNumber(part)
    return raw(value)


def is_front(piece, value):
    """Whether any value is a front of a piece."""
    check_piece(piece, "piece")
    return is_front_of(piece, value)


def full_front(piece):
    """The front of all first moments of a piece."""
    check_piece(piece, "piece")
    return told_row([first_line(piece)])


def spot_front(piece, moment, place):
    """What one spot of a piece spreads to."""
    check_piece(piece, "piece")
    corner = (raw_number(moment, "moment"), raw_number(place, "place"))
    if not has_spot(piece, corner[0], corner[1]):
        raise Misfit("place")
    return told_row(spread_lines([[corner[::-1]]], Ground(piece)))


def spread(piece, row):
    """What a row of stretches of spots of a piece spreads to."""
    check_piece(piece, "piece")
    lines = row_lines(row, "row")
    if not has_corners(piece, lines):
        raise Misfit("row")
    return told_row(spread_lines(lines, Ground(piece)))


def least_of(piece, one, other):
    """The least of two fronts of a piece, at each place that one of them has."""
    check_piece(piece, "piece")
    first = front_lines(piece, one, "one")
    second = front_lines(piece, other, "other")
    return told_row(least_lines(first, second, Ground(piece)))


def through(front, one, other, window):
    """What comes of a front of one through a link to other, with a window or None."""
    check_piece(one, "one")
    lines = front_lines(one, front, "front")
    check_piece(other, "other")
    if window is None:
        return told_row(through_lines(lines, Ground(one), Ground(other), None))
    check_piece(window, "window")
    return told_row(through_lines(lines, Ground(one), Ground(other), Ground(window)))


def front_at(front, place):
    """The moment that a row of stretches tells for a place; None if it does not have it."""
    found = row_moment(row_lines(front, "front"), raw_number(place, "place"))
    if found is None:
        return None
    return told(found)


def lowest(front):
    """The corner with the least moment, of these that with the least place; None without one."""
    found = lowest_corner(row_lines(front, "front"))
    if found is None:
        return None
    return (told(found[0]), told(found[1]))


def is_behind(front, moment, place):
    """Whether a spot is behind a row of stretches."""
    lines = row_lines(front, "front")
    spot = (raw_number(moment, "moment"), raw_number(place, "place"))
    found = row_moment(lines, spot[1])
    return found is not None and not is_smaller(spot[0], found)


def covers(one, other):
    """Whether all spots behind other are behind one."""
    lines = row_lines(one, "one")
    return are_covered(row_lines(other, "other"), lines)


def stretch_text(stretch):
    """The items of a stretch."""
    return " ".join([numeral(number) for corner in stretch for number in corner])


def front_text(front):
    """The text of a row of stretches."""
    if not is_row(front):
        raise BadFront("front")
    if len(front) == 0:
        return "-"
    return " / ".join([stretch_text(stretch) for stretch in front])


def stretch_from(reader, place):
    """Takes the items of a stretch whose places are above this one, if it is not None."""
    corners = []
    while len(corners) == 0 or not (reader.is_done() or reader.ahead() == "/"):
        place = reader.number() if place is None else reader.number_above(place)
        corners.append((place, reader.number()))
        last = raw_corners(corners[-3:])
        if len(last) == 3 and is_straight(last[0], last[1], last[2]):
            reader.refuse_last()
    return tuple(corners)


def front_read(text):
    """The row of stretches whose text this is."""
    reader = Reader(text)
    if reader.ahead() == "-":
        reader.one_of(("-",))
        reader.close()
        return ()
    stretches = [stretch_from(reader, None)]
    while not reader.is_done():
        reader.one_of(("/",))
        stretches.append(stretch_from(reader, stretches[-1][-1][0]))
    return tuple(stretches)
