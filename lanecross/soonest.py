"""The soonest moment to win, with a run, and runs to any station."""

from lanecross.errors import Misfit
from lanecross.papers import Denial, Paper, fixed
from lanecross.plays import has_station
from lanecross.reaching import forward_net, soonest_corner, start_layers, steps_to
from lanecross.reckon import told
from lanecross.tables import told_table
from lanecross.worlds import check_station, check_world, raw_spot


class Soonest(Paper):
    """The soonest moment, a run that wins at this moment, and the table of the world."""

    def __init__(self, moment, run, table):
        super().__init__("soonest", moment, run, table)
        self.moment = fixed(moment)
        self.run = fixed(run)
        self.table = fixed(table)


class Never(Denial):
    """No play wins: the table of the world."""

    def __init__(self, table):
        super().__init__("never", table)
        self.table = fixed(table)


def told_station(spot, piece):
    """The station of a raw spot."""
    return (told(spot[0]), told(spot[1]), piece)


def run_by(world, net, layers, station):
    """The run of the fewest links to a station; None if there is none."""
    steps = steps_to(net, layers, station[2], raw_spot(station))
    if steps is None:
        return None
    run = [world.start]
    for spot, piece, _ in steps[::-1]:
        run.append(told_station(spot, piece))
    if run[-1] != station:
        run.append(station)
    return tuple(run)


def soonest(world):
    """The Soonest of a world, or the Never if no play wins."""
    check_world(world)
    net = forward_net(world)
    layers = start_layers(world, net, None)
    found = soonest_corner(world, layers[-1])
    if found is None:
        return Never(told_table(layers[-1]))
    goal, (place, moment) = found
    station = told_station((moment, place), goal)
    return Soonest(station[0], run_by(world, net, layers, station), told_table(layers[-1]))


def check_spot_of(world, station):
    """Raises the error of what is no station, or one whose piece does not have its spot."""
    check_station(station, len(world.pieces), "station")
    if not has_station(world, station):
        raise Misfit("station")


def run_to(world, station):
    """A run to a station in which no two stations but the last two have one piece; None if there is none."""
    check_world(world)
    check_spot_of(world, station)
    net = forward_net(world)
    return run_by(world, net, start_layers(world, net, None), fixed(station))
