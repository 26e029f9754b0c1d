"""Plays: lists of stations (moment, place, piece), from each of which one goes to the next one."""

from lanecross.checks import is_number
from lanecross.errors import BadNumber, BadPlay, Misfit
from lanecross.lines import between, is_straight
from lanecross.papers import fixed
from lanecross.pieces import has_spot
from lanecross.reckon import is_smaller, negative, raw, subtract, told
from lanecross.worlds import check_world, is_station, raw_spot


def is_slow(one, other):
    """Whether somebody on one raw spot can be on another one in time: never before, at a pace of 1 at most."""
    time = subtract(other[0], one[0])
    way = subtract(other[1], one[1])
    return not (is_smaller(time, way) or is_smaller(time, negative(way)))


def is_in_window(window, spot):
    """Whether a window has a raw spot; one that is None has all."""
    return window is None or has_spot(window, spot[0], spot[1])


def lets_through(world, link, spot):
    """Whether a link lets a raw spot through: its other piece has it, and its window, if there is one."""
    _, other, window = link
    return has_spot(world.pieces[other], spot[0], spot[1]) and is_in_window(window, spot)


def hop_number(world, piece, station):
    """The least number of a link from a piece that lets a station through; None if none does."""
    if not has_station(world, station):
        return None
    spot = raw_spot(station)
    for at, (one, other, window) in enumerate(world.links):
        if one == piece and other == station[2] and is_in_window(window, spot):
            return at
    return None


def goes(world, one, other):
    """Whether one goes from a station to another one."""
    piece = world.pieces[one[2]]
    begin, end = raw_spot(one), raw_spot(other)
    if not (is_slow(begin, end) and has_spot(piece, begin[0], begin[1]) and has_spot(piece, end[0], end[1])):
        return False
    if one[2] == other[2]:
        return begin[0] != end[0]
    return hop_number(world, one[2], other) is not None


def has_station(world, station):
    """Whether the piece of a station has its spot."""
    moment, place = raw_spot(station)
    return has_spot(world.pieces[station[2]], moment, place)


def is_play_of(world, value):
    """Whether any value is a play of a world."""
    if not isinstance(value, (list, tuple)) or len(value) == 0:
        return False
    if not all([is_station(station, len(world.pieces)) for station in value]):
        return False
    if not has_station(world, value[-1]):
        return False
    return all([goes(world, value[at - 1], value[at]) for at in range(1, len(value))])


def checked_play(world, value, part):
    """A play that a caller passed, with tuples in the place of lists."""
    if not is_play_of(world, value):
        raise BadPlay(part)
    return fixed(value)


def is_play(world, value):
    """Whether any value is a play of the world."""
    check_world(world)
    return is_play_of(world, value)


def starts(world, play):
    """Whether the first station of a play is the start of the world."""
    check_world(world)
    return checked_play(world, play, "play")[0] == world.start


def wins_at(world, play):
    """The moment at which a play comes to a goal first; None if it does not."""
    check_world(world)
    for moment, _, piece in checked_play(world, play, "play"):
        if piece in world.goals:
            return moment
    return None


def stations_until(play, moment):
    """How many stations of a play have no greater moment than a raw one."""
    return len([station for station in play if not is_smaller(moment, raw(station[0]))])


def station_at(play, moment):
    """The station that tells where a play is at a raw moment; None if it is nowhere."""
    many = stations_until(play, moment)
    if many == 0:
        return None
    station = play[many - 1]
    if raw(station[0]) == moment:
        return station
    if many == len(play):
        return None
    place = between(raw_spot(station), raw_spot(play[many]), moment)
    return (told(moment), told(place), station[2])


def where_at(world, play, moment):
    """The station that tells where a play is at a moment; None if it is nowhere."""
    check_world(world)
    stations = checked_play(world, play, "play")
    if not is_number(moment):
        raise BadNumber("moment")
    return station_at(stations, raw(moment))


def is_idle(before, station, after):
    """Whether a station could be left out: no hop ends the leg to it, and the one from it goes straight on.

    A leg that takes no time leads from it to the same place, so that it counts as straight.
    """
    return before[2] == station[2] and is_straight(raw_spot(before), raw_spot(station), raw_spot(after))


def with_station(play, station):
    """A plain play with one station more, but without its last one if this could be left out then."""
    if len(play) > 1 and is_idle(play[-2], play[-1], station):
        play = play[:-1]
    return (*play, station)


def plain_stations(play):
    """A play without the stations that could be left out."""
    kept = ()
    for station in play:
        kept = with_station(kept, station)
    return kept


def plain(world, play):
    """The plain play that is at the same places, and in the same pieces, at all moments."""
    check_world(world)
    return plain_stations(checked_play(world, play, "play"))


def leaving(play, at):
    """The index of the station at which a play leaves the piece of another station for good, by a hop.

    If it ends in this piece, it does not: then that of its last station.
    """
    last = at
    for index in range(at, len(play)):
        if play[index][2] == play[at][2]:
            last = index
    return min(last + 1, len(play) - 1)


def straightened(world, play):
    """The play that goes straight through each of its pieces, to where it leaves it for the last time."""
    check_world(world)
    stations = checked_play(world, play, "play")
    at = 0
    kept = [stations[at]]
    # A play may come back to the spot where it was, at once: then its last station is told already.
    while kept[-1] != stations[-1]:
        at = leaving(stations, at)
        kept.append(stations[at])
    return tuple(kept)


def parted(world, play, moment):
    """The play up to a moment, and the play from there on."""
    check_world(world)
    stations = checked_play(world, play, "play")
    if not is_number(moment):
        raise BadNumber("moment")
    middle = station_at(stations, raw(moment))
    if middle is None:
        raise Misfit("moment")
    many = stations_until(stations, raw(moment))
    first = stations[:many]
    if first[-1] != middle:
        first = (*first, middle)
    return (first, (middle, *stations[many:]))


def joined(world, one, other):
    """The plain play of two plays, of which the one ends where the other one begins."""
    check_world(world)
    first = checked_play(world, one, "one")
    second = checked_play(world, other, "other")
    if first[-1] != second[0]:
        raise Misfit("station")
    return plain_stations(first + second[1:])


def hops_of(world, play):
    """For each hop of a play the least number of a link that lets it through."""
    check_world(world)
    stations = checked_play(world, play, "play")
    pairs = [(stations[at - 1], stations[at]) for at in range(1, len(stations))]
    return tuple([hop_number(world, one[2], other) for one, other in pairs if one[2] != other[2]])
