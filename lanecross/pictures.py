"""Pictures: scenes of a world at a moment, and charts of a piece with a front."""

from lanecross.checks import is_number
from lanecross.errors import BadNumber, Misfit
from lanecross.fronts import check_piece, front_lines
from lanecross.lines import opposite_lines
from lanecross.pieces import edges_at, first_line, last_line
from lanecross.plays import checked_play, station_at
from lanecross.reckon import ceiling, divide, floor, greater, multiply, raw, smaller, subtract
from lanecross.worlds import check_world


def edge_places(piece):
    """The raw places of the edges of a piece at its begin and at its end."""
    return [raw(place) for place in [*piece.left, *piece.right]]


def columns_around(places):
    """The pair of the last integer that is above none of some raw places, and the first that is below none."""
    low = high = places[0]
    for place in places:
        low, high = smaller(low, place), greater(high, place)
    return (floor(low), ceiling(high))


def world_columns(world):
    """The first and the last column of a world."""
    return columns_around([place for piece in world.pieces for place in edge_places(piece)])


def columns_of(world):
    """The pair of the first and the last column."""
    check_world(world)
    return world_columns(world)


def scene_row(piece, moment, columns):
    """The row of a piece at a raw moment."""
    first, last = columns
    edges = edges_at(piece, moment)
    if edges is None:
        return "." * (last - first + 1)
    # A piece that lies between two columns has none: then low is just above high.
    low, high = ceiling(edges[0]), floor(edges[1])
    return "." * (low - first) + "=" * (high - low + 1) + "." * (last - high)


def with_player(rows, station, columns):
    """The rows of a scene, with the sign of a player at a station."""
    row = rows[station[2]]
    at = floor(raw(station[1])) - columns[0]
    return [*rows[:station[2]], row[:at] + "@" + row[at + 1:], *rows[station[2] + 1:]]


def scene(world, moment, play=None):
    """The scene of a world at a moment, of a play if there is one: a row of text for each piece."""
    check_world(world)
    if not is_number(moment):
        raise BadNumber("moment")
    columns = world_columns(world)
    rows = [scene_row(piece, raw(moment), columns) for piece in world.pieces]
    if play is None:
        return tuple(rows)
    station = station_at(checked_play(world, play, "play"), raw(moment))
    if station is None:
        raise Misfit("moment")
    return tuple(with_player(rows, station, columns))


def segment_ceilings(one, other):
    """For each integer place from one point to another one the least integer not below the moment there."""
    slope = divide(subtract(other[1], one[1]), subtract(other[0], one[0]))
    height = subtract(one[1], multiply(slope, one[0]))
    # In whole numbers, as a chart may have very many places.
    factor, shift, below = slope[0] * height[1], height[0] * slope[1], slope[1] * height[1]
    places = range(ceiling(one[0]), floor(other[0]) + 1)
    return {place: -(-(factor * place + shift) // below) for place in places}


def ceilings(lines):
    """For each integer place that lines have the least integer that is not below the moment there."""
    found = {}
    for line in lines:
        for place, moment in line:
            if place[1] == 1:
                found[place[0]] = ceiling(moment)
        for one, other in zip(line, line[1:]):
            found.update(segment_ceilings(one, other))
    return found


def chart_column(span, own, told):
    """The signs of a place, from the first to the last row.

    The span is those rows, own those in which the piece has the place; the front tells it from told on.
    """
    low, high = own
    told = min(told, high + 1)
    return " " * (low - span[0]) + "." * (told - low) + "#" * (high - told + 1) + " " * (span[1] - high)


def chart_columns(piece, lines):
    """The signs of a chart, place by place."""
    span = (ceiling(raw(piece.begin)), floor(raw(piece.end)))
    nowhere = span[1] + 1
    lows, told = ceilings([first_line(piece)]), ceilings(lines)
    highs = ceilings(opposite_lines([last_line(piece)]))
    first, last = columns_around(edge_places(piece))
    found = []
    for place in range(first, last + 1):
        own = (lows.get(place, nowhere), -highs.get(place, -span[1]))
        found.append(chart_column(span, own, told.get(place, nowhere)))
    return found


def chart(piece, front):
    """The chart of a piece with a front of it: a row of text for each integer moment."""
    check_piece(piece, "piece")
    columns = chart_columns(piece, front_lines(piece, front, "front"))
    return tuple(["".join(signs) for signs in zip(*columns)])
