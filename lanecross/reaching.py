"""What can be reached in a world, by more and more links, in raw lines, and the ways there.

A net is a world as it is run through: forward as it stands, or backward. A layer is a table
of raw lines: what can be reached by so many links.
"""

from lanecross.lines import are_covered, lowest_corner, moment_at, row_moment
from lanecross.pieces import edges_at
from lanecross.reckon import add, greater, is_smaller, negative, smaller, subtract
from lanecross.spreading import Ground, least_lines, let_through, spread_lines
from lanecross.turned import backward_window
from lanecross.worlds import raw_spot


class Net:
    """Pieces with their grounds, and links as triples (one, other, ground of the window or None)."""

    def __init__(self, pieces, links):
        self.pieces = pieces
        self.grounds = [Ground(piece) for piece in pieces]
        self.ways = [(one, other, None if window is None else Ground(window)) for one, other, window in links]


def forward_net(world):
    """The net of a world as it stands."""
    return Net(world.pieces, world.links)


def backward_net(world):
    """The net of a world turned backward: its moments have the other sign."""
    links = [(other, one, backward_window(window)) for one, other, window in world.links]
    return Net([piece.backward() for piece in world.pieces], links)


def let_over(net, layer, way):
    """The spots of a layer that a link lets through, at their first moments."""
    one, other, window = way
    return let_through(layer[one], net.grounds[one], net.grounds[other], window)


def with_spots(front, rows, ground):
    """The least of a front of a ground and of what spots of it spread to."""
    if are_covered(rows, front):
        return front
    return least_lines(front, spread_lines(rows, ground), ground)


def next_layer(net, layer, fresh):
    """The layer by one link more; only pieces that are fresh lead to anything new."""
    found = list(layer)
    for way in net.ways:
        if fresh[way[0]]:
            other = way[1]
            found[other] = with_spots(found[other], let_over(net, layer, way), net.grounds[other])
    return found


def layers_from(net, first, most):
    """The layers by 0, 1, 2 .. links, up to most links, or until nothing is new.

    Nobody needs more links than there are other pieces.
    """
    layers = [first]
    fresh = [True for _ in first]
    bound = len(first) - 1
    if most is not None:
        bound = min(bound, most)
    while any(fresh) and len(layers) <= bound:
        following = next_layer(net, layers[-1], fresh)
        fresh = [one != other for one, other in zip(layers[-1], following)]
        if any(fresh):
            layers.append(following)
    return layers


def start_layer(world, net):
    """What is reached of each piece by no link: in the start's piece what its spot spreads to."""
    moment, place = raw_spot(world.start)
    piece = world.start[2]
    found = [[] for _ in net.grounds]
    found[piece] = spread_lines([[(place, moment)]], net.grounds[piece])
    return found


def start_layers(world, net, most):
    """The layers of what is reached from the start."""
    return layers_from(net, start_layer(world, net), most)


def goal_layer(world, net):
    """All first moments of goals, and nothing of other pieces."""
    found = [[] for _ in net.grounds]
    for goal in world.goals:
        found[goal] = [net.grounds[goal].first]
    return found


def edge_places(piece, moment):
    """The places, one or two, of the edges of a piece at a raw moment; none if it is not there."""
    edges = edges_at(piece, moment)
    if edges is None:
        return []
    if edges[0] == edges[1]:
        return [edges[0]]
    return [edges[0], edges[1]]


def end_rows(net, number, moment):
    """The spots that a piece has at a raw moment, a line or none."""
    places = edge_places(net.pieces[number], moment)
    if len(places) == 0:
        return []
    return [[(place, moment) for place in places]]


def end_layer(net, moment):
    """What the spots spread to that the pieces have at a raw moment."""
    return [spread_lines(end_rows(net, at, moment), ground) for at, ground in enumerate(net.grounds)]


def is_reached(lines, spot):
    """Whether a raw spot (moment, place) is behind lines."""
    found = row_moment(lines, spot[1])
    return found is not None and not is_smaller(spot[0], found)


def backward_spot(station):
    """The raw spot of a station, with the other sign at its moment."""
    moment, place = raw_spot(station)
    return (negative(moment), place)


def gap(one, other):
    """By how much two raw places differ."""
    return subtract(greater(one, other), smaller(one, other))


def first_spot(rows, place):
    """The spot of lines from which one is at a place first, and when: a pair; None without lines.

    Straight between corners, nothing is sooner than at the corners and at the place itself.
    """
    found = None
    for line in rows:
        points = list(line)
        moment = moment_at(line, place)
        if moment is not None:
            points.append((place, moment))
        for point in points:
            arrival = add(point[1], gap(point[0], place))
            if found is None or is_smaller(arrival, found[1]):
                found = ((point[1], point[0]), arrival)
    return found


def way_into(net, layer, number, spot):
    """The spot at which one comes into a piece on the way to a spot of it, and the piece before.

    None if no link leads there from what a layer tells.
    """
    for way in net.ways:
        if way[1] == number:
            found = first_spot(let_over(net, layer, way), spot[1])
            if found is not None and not is_smaller(spot[0], found[1]):
                return (found[0], way[0])
    return None


def steps_to(net, layers, number, spot):
    """The hops of a way from the first layer to a raw spot of a piece, the last one first.

    Each one is a triple: its raw spot, the piece behind it, and the one before. The first
    layer that has the spot needs the fewest links, so that no piece comes twice. None if no
    layer has the spot.
    """
    if not is_reached(layers[-1][number], spot):
        return None
    at = 0
    while not is_reached(layers[at][number], spot):
        at += 1
    steps = []
    while at > 0:
        at -= 1
        entry, before = way_into(net, layers[at], number, spot)
        steps.append((entry, number, before))
        spot, number = entry, before
    return steps


def soonest_corner(world, layer):
    """The goal with the corner of the least moment, and this corner: a pair; None without one."""
    found = None
    for goal in world.goals:
        corner = lowest_corner(layer[goal])
        if corner is not None and (found is None or is_smaller(corner[1], found[1][1])):
            found = (goal, corner)
    return found
