"""Levels: lanes with bodies, lifts and keys, a start and goals."""

from lanecross.checks import is_lot, is_number, is_row_of, is_within
from lanecross.errors import BadLevel, BadNumber, BadText, Misfit, Twice
from lanecross.lanes import MOST_BODIES, MOST_KEYS, Lane, is_above_zero, lane_free
from lanecross.level_texts import MOST_LANES, MOST_LIFTS, level_from
from lanecross.numerals import integer_text, numeral
from lanecross.papers import fixed
from lanecross.pieces import Piece, piece_text
from lanecross.reckon import is_smaller, raw, told
from lanecross.texts import Reader
from lanecross.worlds import first_twice, is_link


class Level:
    """A level. It never changes."""

    def __init__(self, lanes, end, lifts, keyring, start, goals):
        check_parts(lanes, end, lifts, keyring)
        if not (is_row_of(start, 2) and is_within(start[0], 0, len(lanes) - 1) and is_number(start[1])):
            raise BadLevel("start")
        if not is_lot(goals, len(lanes)) or len(goals) == 0:
            raise BadLevel("goals")
        if not all([fits_lock(body.lock, keyring) for lane in lanes for body in lane.bodies]):
            raise Misfit("lock")
        if not is_free(lanes[start[0]], end, raw(start[1])):
            raise Misfit("start")
        twice = first_twice(lifts)
        if twice is not None:
            raise Twice(lifts[twice])
        self.lanes = tuple(lanes)
        self.end = fixed(end)
        self.lifts = fixed(lifts)
        self.keyring = fixed(keyring)
        self.start = fixed(start)
        self.goals = tuple(goals)

    def __eq__(self, other):
        return isinstance(other, Level) and level_parts(self) == level_parts(other)

    def __str__(self):
        return " / ".join(part_texts(self))

    @staticmethod
    def read(text):
        """The level whose text this is."""
        reader = Reader(text)
        lanes, end, lifts, keyring, start, goals = level_from(reader)
        try:
            return Level(lanes, end, lifts, keyring, start, goals)
        except (Misfit, Twice):
            raise BadText(0, len(reader.words) - 1) from None


def are_lanes(value):
    """Whether this is a list of lanes, one at least, not too many, and not with too many bodies."""
    if not isinstance(value, (list, tuple)) or not is_within(len(value), 1, MOST_LANES):
        return False
    if not all([isinstance(lane, Lane) for lane in value]):
        return False
    return sum([len(lane.bodies) for lane in value]) <= MOST_BODIES


def is_lift(value, many):
    """Whether this is a triple of two unlike numbers of so many lanes, and a piece."""
    return is_link(value, many) and value[2] is not None


def is_key(value, many):
    """Whether this is a pair of the number of one of so many lanes, and a piece."""
    return is_row_of(value, 2) and is_within(value[0], 0, many - 1) and isinstance(value[1], Piece)


def check_parts(lanes, end, lifts, keyring):
    """Raises the error of what is no lanes, no end, no lifts or no keys."""
    if not are_lanes(lanes):
        raise BadLevel("lanes")
    if not is_above_zero(end):
        raise BadNumber("end")
    if not isinstance(lifts, (list, tuple)) or len(lifts) > MOST_LIFTS:
        raise BadLevel("lifts")
    if not all([is_lift(lift, len(lanes)) for lift in lifts]):
        raise BadLevel("lifts")
    if not isinstance(keyring, (list, tuple)) or len(keyring) > MOST_KEYS:
        raise BadLevel("keyring")
    if not all([is_key(key, len(lanes)) for key in keyring]):
        raise BadLevel("keyring")


def fits_lock(lock, keyring):
    """Whether a lock is that of a key, or none."""
    return lock is None or lock < len(keyring)


def is_free(lane, end, place):
    """Whether a raw place of a lane is free at moment 0 without any key."""
    pairs = lane_free(lane, end, (), (0, 1))
    return any([not (is_smaller(place, low) or is_smaller(high, place)) for low, high in pairs])


def level_parts(level):
    """All that makes a level."""
    return (level.lanes, level.end, level.lifts, level.keyring, level.start, level.goals)


def body_text(body):
    """The part of a body in the text of a level."""
    text = "body " + piece_text(body.piece)
    if body.lock is None:
        return text
    return text + " lock " + integer_text(body.lock)


def lane_texts(lane):
    """The parts of a lane and of its bodies."""
    return [lane.kind + " " + numeral(lane.wide), *[body_text(body) for body in lane.bodies]]


def lift_text(lift):
    """The part of a lift."""
    one, other, window = lift
    return "lift " + integer_text(one) + " " + integer_text(other) + " " + piece_text(window)


def part_texts(level):
    """The parts of the text of a level."""
    lanes = [text for lane in level.lanes for text in lane_texts(lane)]
    lifts = [lift_text(lift) for lift in level.lifts]
    keys = ["key " + integer_text(lane) + " " + piece_text(window) for lane, window in level.keyring]
    start = " ".join(["start", *[numeral(number) for number in level.start]])
    goals = " ".join(["goals", *[integer_text(goal) for goal in level.goals]])
    return ["level " + numeral(level.end), *lanes, *lifts, *keys, start, goals]


def check_level(value):
    """Raises the error of what is no level."""
    if not isinstance(value, Level):
        raise BadLevel("level")


def check_lane(level, value):
    """Raises the error of what is none of the lanes of a level."""
    if not is_within(value, 0, len(level.lanes) - 1):
        raise BadNumber("lane")


def check_moment(level, value):
    """Raises the error of what is no moment from 0 to the end of a level."""
    if not is_number(value) or is_smaller(raw(value), (0, 1)) or is_smaller(raw(level.end), raw(value)):
        raise BadNumber("moment")


def check_keys(level, value):
    """Raises the error of what is no lot of the keys of a level."""
    if not is_lot(value, len(level.keyring)):
        raise BadNumber("keys")


def free_at(level, lane, moment, keys=()):
    """The free places of a lane at a moment for those who have these keys, pairs ascending."""
    check_level(level)
    check_lane(level, lane)
    check_moment(level, moment)
    check_keys(level, keys)
    pairs = lane_free(level.lanes[lane], level.end, keys, raw(moment))
    return tuple([(told(low), told(high)) for low, high in pairs])
