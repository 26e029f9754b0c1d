"""Taking the parts of a level from its text."""

from lanecross.lanes import MOST_BODIES, MOST_KEYS, Body, Lane
from lanecross.pieces import piece_from
from lanecross.world_texts import goals_from

MOST_LANES = 8
MOST_LIFTS = 12
KINDS = ("road", "river")


def words_of(word, many, most):
    """A word that may stand if there are not yet most of its parts; none or one."""
    if many < most:
        return (word,)
    return ()


def words_behind(lanes, bodies):
    """The words that may stand behind so many lanes and bodies."""
    kinds = KINDS if lanes < MOST_LANES else ()
    return (*words_of("body", bodies, MOST_BODIES), *kinds, "lift", "key", "start")


def body_from(reader):
    """Takes a body, and the bar behind it."""
    piece = piece_from(reader)
    if reader.one_of(("/", "lock")) == "/":
        return Body(piece)
    lock = reader.integer(0, MOST_KEYS)
    reader.one_of(("/",))
    return Body(piece, lock)


def lane_from(reader, kind, lanes):
    """Takes a lane of a kind, behind other lanes, and the word behind it: the lane and the word."""
    many = sum([len(lane.bodies) for lane in lanes])
    wide = reader.number_above(0)
    reader.one_of(("/",))
    bodies = []
    word = reader.one_of(words_behind(len(lanes) + 1, many))
    while word == "body":
        bodies.append(body_from(reader))
        word = reader.one_of(words_behind(len(lanes) + 1, many + len(bodies)))
    return Lane(kind, wide, bodies), word


def lanes_from(reader):
    """Takes all lanes, and the word behind them: the lanes and the word."""
    word = reader.one_of(KINDS)
    lanes = []
    while word in KINDS:
        lane, word = lane_from(reader, word, lanes)
        lanes.append(lane)
    return lanes, word


def lift_from(reader, many):
    """Takes a lift between so many lanes, and the bar behind it."""
    one = reader.integer(0, many)
    other = reader.integer(0, many)
    if one == other:
        reader.refuse_last()
    window = piece_from(reader)
    reader.one_of(("/",))
    return (one, other, window)


def key_from(reader, many):
    """Takes a key in one of so many lanes, and the bar behind it."""
    lane = reader.integer(0, many)
    window = piece_from(reader)
    reader.one_of(("/",))
    return (lane, window)


def some_goals_from(reader, many):
    """Takes the goals, one at least."""
    first = reader.integer(0, many)
    return [first, *goals_from(reader, first + 1, many)]


def level_from(reader):
    """Takes the lanes, the end, the lifts, the keys, the start and the goals of a level."""
    reader.one_of(("level",))
    end = reader.number_above(0)
    reader.one_of(("/",))
    lanes, word = lanes_from(reader)
    many = len(lanes)
    lifts = []
    while word == "lift":
        lifts.append(lift_from(reader, many))
        word = reader.one_of((*words_of("lift", len(lifts), MOST_LIFTS), "key", "start"))
    keyring = []
    while word == "key":
        keyring.append(key_from(reader, many))
        word = reader.one_of((*words_of("key", len(keyring), MOST_KEYS), "start"))
    start = (reader.integer(0, many), reader.number())
    reader.one_of(("/",))
    reader.one_of(("goals",))
    return lanes, end, lifts, keyring, start, some_goals_from(reader, many)
