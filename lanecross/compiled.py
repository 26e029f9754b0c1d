"""The world of a level: the ground of its lanes for each lot of keys, and how players go on."""

from lanecross.checks import is_number
from lanecross.errors import BadNumber, TooMany
from lanecross.lanes import lane_ground
from lanecross.levels import check_keys, check_lane, check_level, check_moment
from lanecross.pieces import has_spot
from lanecross.reckon import is_smaller, raw
from lanecross.shared_spots import shared_span
from lanecross.worlds import World

MOST_PIECES = 48
MOST_LINKS = 600


class Plot:
    """A piece of the ground of a lane for those who have just these keys."""

    def __init__(self, lot, lane, piece):
        self.lot = lot
        self.lane = lane
        self.piece = piece


def lots_of(many):
    """The lots of so many keys, two at most: shorter ones first, those of one length ascending."""
    lots = [()]
    for key in range(many):
        lots = [*lots, *[(*lot, key) for lot in lots]]
    return lots


def plots_of(level):
    """The plots of a level, in the order of the pieces of its world."""
    return [Plot(keys, at, piece) for keys in lots_of(len(level.keyring)) for at, lane in enumerate(level.lanes)
            for piece in lane_ground(lane, level.end, keys)]


def is_walk(one, other):
    """Whether a player walks on from a plot to another one, in the same lane or to a neighbouring one."""
    if one.lot != other.lot or abs(one.lane - other.lane) > 1:
        return False
    span = shared_span([one.piece, other.piece])
    if one.lane != other.lane:
        return span is not None
    return span is not None and is_smaller(span[0], raw(other.piece.end))


def windows_between(level, one, other):
    """The windows of the lifts, or of the key, that lead from the lane and keys of a plot to those of another one."""
    if one.lot == other.lot:
        return [window for begin, end, window in level.lifts if begin == one.lane and end == other.lane]
    if one.lane != other.lane or len(other.lot) != len(one.lot) + 1:
        return []
    taken = [key for key in other.lot if key not in one.lot]
    return [level.keyring[key][1] for key in taken if len(taken) == 1 and level.keyring[key][0] == one.lane]


def links_between(level, one, other):
    """The windows of the links from a plot to another one, that of a walk, None, first."""
    found = []
    if is_walk(one, other):
        found.append(None)
    for window in windows_between(level, one, other):
        if shared_span([one.piece, other.piece, window]) is not None:
            found.append(window)
    return found


def links_of(level, plots):
    """The links of the world of a level."""
    return [(at, index, window) for at, one in enumerate(plots) for index, other in enumerate(plots) if at != index
            for window in links_between(level, one, other)]


def plots_and_links(level):
    """The plots and the links of a level, not too many."""
    plots = plots_of(level)
    if len(plots) > MOST_PIECES:
        raise TooMany("pieces", MOST_PIECES)
    links = links_of(level, plots)
    if len(links) > MOST_LINKS:
        raise TooMany("links", MOST_LINKS)
    return plots, links


def plot_with(plots, keys, lane, spot):
    """The number of the first plot of a lane, for just these keys, that has a raw spot; None without one."""
    for at, plot in enumerate(plots):
        if plot.lot == keys and plot.lane == lane and has_spot(plot.piece, spot[0], spot[1]):
            return at
    return None


def world_of(level):
    """The world of a level."""
    check_level(level)
    plots, links = plots_and_links(level)
    lane, place = level.start
    start = (0, place, plot_with(plots, (), lane, ((0, 1), raw(place))))
    goals = [at for at, plot in enumerate(plots) if plot.lane in level.goals]
    return World([plot.piece for plot in plots], links, start, goals)


def whence(level):
    """For each piece of the world of a level the keys and the lane for which it is ground."""
    check_level(level)
    plots, _ = plots_and_links(level)
    return tuple([(plot.lot, plot.lane) for plot in plots])


def piece_at(level, moment, lane, place, keys=()):
    """The number of the first piece of the world that is ground of a lane for these keys and has a spot; or None."""
    check_level(level)
    check_moment(level, moment)
    check_lane(level, lane)
    if not is_number(place):
        raise BadNumber("place")
    check_keys(level, keys)
    plots, _ = plots_and_links(level)
    return plot_with(plots, tuple(keys), lane, (raw(moment), raw(place)))
