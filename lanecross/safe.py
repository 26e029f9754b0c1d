"""From which spots one can still win, or stay alive to the end of the world."""

from lanecross.checks import is_number
from lanecross.errors import BadNumber
from lanecross.lines import opposite_lines, row_moment
from lanecross.papers import Denial, Paper, fixed
from lanecross.pieces import edges_at
from lanecross.reaching import backward_net, backward_spot, end_layer, goal_layer, is_reached, layers_from, steps_to
from lanecross.reckon import greater, negative, raw, smaller, told
from lanecross.soonest import check_spot_of, told_station
from lanecross.tables import told_table
from lanecross.worlds import check_number_of_piece, check_world


class Safe(Paper):
    """A play from a station to a goal."""

    def __init__(self, play):
        super().__init__("safe", play)
        self.play = fixed(play)


class Alive(Paper):
    """A play from a station to the end of the world."""

    def __init__(self, play):
        super().__init__("alive", play)
        self.play = fixed(play)


class Lost(Denial):
    """No play leads from a station to a goal: a late table."""

    def __init__(self, table):
        super().__init__("lost", table)
        self.table = fixed(table)


class Doomed(Denial):
    """No play leads from a station to the end of the world: a late table."""

    def __init__(self, table):
        super().__init__("doomed", table)
        self.table = fixed(table)


def safe_layers(world, net):
    """The layers, backward, of what leads to goals."""
    return layers_from(net, goal_layer(world, net), None)


def alive_layers(world, net):
    """The layers, backward, of what leads to the end of the world."""
    return layers_from(net, end_layer(net, negative(raw(world.end))), None)


def late_table(layers):
    """The late table of what layers tell backward."""
    return told_table([opposite_lines(lines) for lines in layers[-1]])


def safe_table(world):
    """The late table for which just the spots of safe stations are in time."""
    check_world(world)
    return late_table(safe_layers(world, backward_net(world)))


def alive_table(world):
    """The late table for which just the spots of alive stations are in time."""
    check_world(world)
    return late_table(alive_layers(world, backward_net(world)))


def is_safe(world, station):
    """Whether some play that begins with a station ends in a goal."""
    check_world(world)
    check_spot_of(world, station)
    return is_reached(safe_layers(world, backward_net(world))[-1][station[2]], backward_spot(station))


def is_alive(world, station):
    """Whether some play that begins with a station ends at the end of the world."""
    check_world(world)
    check_spot_of(world, station)
    return is_reached(alive_layers(world, backward_net(world))[-1][station[2]], backward_spot(station))


def check_place(world, piece, place):
    """Raises the error of what is no world, no number of a piece of it, no place."""
    check_world(world)
    check_number_of_piece(world, piece)
    if not is_number(place):
        raise BadNumber("place")


def last_moment(lines, place):
    """The last moment of a place that is told backward; None if there is none."""
    found = row_moment(lines, raw(place))
    if found is None:
        return None
    return told(negative(found))


def last_call(world, piece, place):
    """The last moment at which a place of a piece is safe; None if it never is."""
    check_place(world, piece, place)
    return last_moment(safe_layers(world, backward_net(world))[-1][piece], place)


def last_stand(world, piece, place):
    """The last moment at which a place of a piece is alive; None if it never is."""
    check_place(world, piece, place)
    return last_moment(alive_layers(world, backward_net(world))[-1][piece], place)


def play_on(net, layers, station):
    """The play of the fewest hops from a station to what the first layer has; None if there is none."""
    steps = steps_to(net, layers, station[2], backward_spot(station))
    if steps is None:
        return None
    return [station, *[told_station((negative(spot[0]), spot[1]), before) for spot, _, before in steps]]


def escape(world, station):
    """The Safe of a play from a station to a goal, or the Lost if there is none."""
    check_world(world)
    check_spot_of(world, station)
    net = backward_net(world)
    layers = safe_layers(world, net)
    play = play_on(net, layers, fixed(station))
    if play is None:
        return Lost(late_table(layers))
    return Safe(play)


def last_station(world, station):
    """The nearest station in the piece of a station at the end of the world."""
    moment = raw(world.end)
    edges = edges_at(world.pieces[station[2]], moment)
    place = greater(edges[0], smaller(edges[1], raw(station[1])))
    return told_station((moment, place), station[2])


def lasting(world, station):
    """The Alive of a play from a station to the end of the world, or the Doomed if there is none."""
    check_world(world)
    check_spot_of(world, station)
    net = backward_net(world)
    layers = alive_layers(world, net)
    play = play_on(net, layers, fixed(station))
    if play is None:
        return Doomed(late_table(layers))
    if play[-1][0] != world.end:
        play.append(last_station(world, play[-1]))
    return Alive(play)
