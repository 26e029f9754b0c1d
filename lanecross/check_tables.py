"""Whether tables, late tables and papers about worlds are right, whoever made them."""

from lanecross.checks import is_number, is_row_of
from lanecross.fronts import are_front_lines
from lanecross.lines import are_covered, opposite_lines
from lanecross.papers import fixed, is_just
from lanecross.plays import is_play_of
from lanecross.reaching import (
    backward_net, backward_spot, end_rows, forward_net, goal_layer, is_reached, let_over, soonest_corner)
from lanecross.reckon import is_smaller, negative, raw
from lanecross.rows import is_row, raw_row
from lanecross.safe import Alive, Doomed, Lost, Safe
from lanecross.soonest import Never, Soonest, check_spot_of
from lanecross.worlds import check_world, raw_spot


def is_left_by_none(net, layer):
    """Whether each link leads only to what is behind the lines of its other piece."""
    return all([are_covered(let_over(net, layer, way), layer[way[1]]) for way in net.ways])


def are_fronts(net, layer):
    """Whether raw lines are fronts, piece by piece."""
    return all([are_front_lines(piece, lines) for piece, lines in zip(net.pieces, layer)])


def rows_in(value, many):
    """The raw lines of a list of so many rows of stretches; None for any other value."""
    if not is_row_of(value, many) or not all([is_row(row) for row in value]):
        return None
    return [raw_row(row) for row in value]


def closed_layer(world, value):
    """The raw lines of a closed table; None for any other value."""
    net = forward_net(world)
    layer = rows_in(value, len(net.pieces))
    if layer is None or not are_fronts(net, layer):
        return None
    if not is_reached(layer[world.start[2]], raw_spot(world.start)) or not is_left_by_none(net, layer):
        return None
    return layer


def is_closed(world, value):
    """Whether any value is a closed table: nobody leaves it."""
    check_world(world)
    return closed_layer(world, value) is not None


def shows_when(world, moment, run, table):
    """Whether a run wins at a moment, and a closed table tells of nothing sooner."""
    if not is_number(moment) or not is_play_of(world, run):
        return False
    if run[0] != world.start or run[-1][0] != moment or run[-1][2] not in world.goals:
        return False
    layer = closed_layer(world, table)
    if layer is None:
        return False
    found = soonest_corner(world, layer)
    return found is None or not is_smaller(found[1][1], raw(moment))


def shows_never(world, table):
    """Whether a closed table tells of no place of any goal."""
    layer = closed_layer(world, table)
    return layer is not None and soonest_corner(world, layer) is None


def shows_soonest(world, value):
    """Whether any value is a right Soonest or Never of a world."""
    check_world(world)
    if isinstance(value, Soonest) and is_just(value, "Soonest"):
        return shows_when(world, value.moment, value.run, value.table)
    if isinstance(value, Never) and is_just(value, "Never"):
        return shows_never(world, value.table)
    return False


def shows_run(world, station, value):
    """Whether any value is a run to a station."""
    check_world(world)
    check_spot_of(world, station)
    if not is_play_of(world, value):
        return False
    run = fixed(value)
    return run[0] == world.start and run[-1] == fixed(station)


def kept_layer(net, value):
    """The raw lines, backward, of a late table that is kept; None for any other value."""
    rows = rows_in(value, len(net.pieces))
    if rows is None:
        return None
    layer = [opposite_lines(lines) for lines in rows]
    if not are_fronts(net, layer) or not is_left_by_none(net, layer):
        return None
    return layer


def is_kept(world, value):
    """Whether any value is a late table that is kept."""
    check_world(world)
    return kept_layer(backward_net(world), value) is not None


def shows_too_late(net, needed, station, table):
    """Whether a late table is kept, has all lines that are needed in time, and a station not."""
    layer = kept_layer(net, table)
    if layer is None or not all([are_covered(rows, lines) for rows, lines in zip(needed, layer)]):
        return False
    return not is_reached(layer[station[2]], backward_spot(station))


def begins_with(world, station, play):
    """Whether this is a play that begins with a station."""
    return is_play_of(world, play) and play[0] == fixed(station)


def shows_escape(world, station, value):
    """Whether any value is a right Safe or Lost of a station."""
    check_world(world)
    check_spot_of(world, station)
    if isinstance(value, Safe) and is_just(value, "Safe"):
        return begins_with(world, station, value.play) and value.play[-1][2] in world.goals
    if isinstance(value, Lost) and is_just(value, "Lost"):
        net = backward_net(world)
        return shows_too_late(net, goal_layer(world, net), station, value.table)
    return False


def shows_lasting(world, station, value):
    """Whether any value is a right Alive or Doomed of a station."""
    check_world(world)
    check_spot_of(world, station)
    if isinstance(value, Alive) and is_just(value, "Alive"):
        return begins_with(world, station, value.play) and value.play[-1][0] == world.end
    if isinstance(value, Doomed) and is_just(value, "Doomed"):
        net = backward_net(world)
        moment = negative(raw(world.end))
        needed = [end_rows(net, at, moment) for at in range(len(net.pieces))]
        return shows_too_late(net, needed, station, value.table)
    return False
