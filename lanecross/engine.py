"""An engine plays a world by commands: run, hop, on."""

from lanecross.checks import is_number, is_within
from lanecross.errors import BadNumber, Refused
from lanecross.papers import fixed
from lanecross.plays import lets_through, with_station
from lanecross.reckon import add, is_smaller, multiply, raw, smaller, subtract, told
from lanecross.shared_spots import span_between
from lanecross.strips import edges_of
from lanecross.worlds import check_world, raw_spot

PLAYS = "plays"
FALLEN = "fallen"
OVER = "over"


class Engine:
    """An engine at the start of a world. It changes."""

    def __init__(self, world):
        check_world(world)
        self.world = world
        self.moment, self.place, self.piece = world.start
        self.pace = 0
        self.fate = PLAYS
        self.won = None
        self.play = ()
        note_station(self)

    def run(self, pace):
        """The pace from now on."""
        if not is_pace(pace):
            raise BadNumber("pace")
        if self.fate != PLAYS:
            raise Refused(self.fate)
        self.pace = fixed(pace)

    def hop(self, number):
        """It hops by a link."""
        if not is_within(number, 0, len(self.world.links) - 1):
            raise BadNumber("number")
        if self.fate != PLAYS:
            raise Refused(self.fate)
        if not can_hop(self, number):
            raise Refused("hop")
        self.piece = self.world.links[number][1]
        note_station(self)

    def on(self, by):
        """Time goes on, unless it has fallen or the world is over."""
        if not is_time(by):
            raise BadNumber("by")
        if self.fate == PLAYS:
            go_on(self, raw(by))


def is_pace(value):
    """Whether this is a number from -1 to 1."""
    return is_number(value) and not (is_smaller((1, 1), raw(value)) or is_smaller(raw(value), (-1, 1)))


def is_time(value):
    """Whether this is a number from 0 on."""
    return is_number(value) and not is_smaller(raw(value), (0, 1))


def station_of(engine):
    """The station at which an engine is."""
    return (engine.moment, engine.place, engine.piece)


def note_station(engine):
    """The play of an engine comes to the station at which it is, and perhaps it wins there."""
    engine.play = with_station(engine.play, station_of(engine))
    if engine.won is None and engine.piece in engine.world.goals:
        engine.won = engine.moment


def can_hop(engine, number):
    """Whether an engine that plays could hop by the link with this number now."""
    link = engine.world.links[number]
    return link[0] == engine.piece and lets_through(engine.world, link, raw_spot(station_of(engine)))


def place_at(engine, moment):
    """The raw place to which an engine goes straight on until a raw moment."""
    time = subtract(moment, raw(engine.moment))
    return add(raw(engine.place), multiply(raw(engine.pace), time))


def last_moment(engine):
    """The last raw moment up to which the piece of an engine has its way, straight on."""
    piece = engine.world.pieces[engine.piece]
    first, end = raw(engine.moment), raw(piece.end)
    if first == end:
        return end
    way = ((first, raw(engine.place)), (end, place_at(engine, end)))
    left, right = edges_of(piece)
    span = span_between(left, way, (first, end))
    return span_between(way, right, span)[1]


def go_on(engine, by):
    """An engine goes straight on by a raw time, as far as its piece has the way."""
    wanted, last = add(raw(engine.moment), by), last_moment(engine)
    moment = smaller(wanted, last)
    if is_smaller(raw(engine.moment), moment):
        engine.moment, engine.place = told(moment), told(place_at(engine, moment))
        note_station(engine)
    if is_smaller(last, wanted):
        engine.fate = OVER if told(last) == engine.world.end else FALLEN


def copied(engine):
    """A second engine that stands as this one does."""
    other = Engine(engine.world)
    other.moment, other.place, other.piece = station_of(engine)
    other.pace, other.fate = engine.pace, engine.fate
    other.won, other.play = engine.won, engine.play
    return other
