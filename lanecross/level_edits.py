"""Levels that are changed body by body, and the bodies that are in the way."""

from lanecross.checks import is_within
from lanecross.compiled import world_of
from lanecross.errors import BadNumber, Misfit
from lanecross.lanes import Lane
from lanecross.levels import Level, check_lane, check_level
from lanecross.numbers import is_less
from lanecross.tables import soonest_by


def with_lanes(level, lanes):
    """The level with other lanes."""
    return Level(lanes, level.end, level.lifts, level.keyring, level.start, level.goals)


def without_body(level, lane, body):
    """The level without a body of a lane."""
    check_level(level)
    check_lane(level, lane)
    changed = level.lanes[lane]
    if not is_within(body, 0, len(changed.bodies) - 1):
        raise BadNumber("body")
    bodies = [*changed.bodies[:body], *changed.bodies[body + 1:]]
    return with_lanes(level, [*level.lanes[:lane], Lane(changed.kind, changed.wide, bodies), *level.lanes[lane + 1:]])


def unlocked_lane(lane, key):
    """A lane without its bodies that have the lock of a key."""
    return Lane(lane.kind, lane.wide, [body for body in lane.bodies if body.lock != key])


def unlocked(level, key):
    """The level without the bodies that have the lock of a key; it has all its keys still."""
    check_level(level)
    if not is_within(key, 0, len(level.keyring) - 1):
        raise BadNumber("key")
    return with_lanes(level, [unlocked_lane(lane, key) for lane in level.lanes])


def ended(level, end):
    """The level with another end."""
    check_level(level)
    # Level itself refuses an end.
    return Level(level.lanes, end, level.lifts, level.keyring, level.start, level.goals)


def is_sooner(moment, other):
    """Whether a moment at which one wins is before another one; None stands for never."""
    return moment is not None and (other is None or is_less(moment, other))


def is_in_the_way(level, lane, body, moment):
    """Whether a level is won sooner than at a moment without a body; not if it is no level without it."""
    try:
        changed = without_body(level, lane, body)
    except Misfit:
        return False
    return is_sooner(soonest_by(world_of(changed)), moment)


def in_the_way(level):
    """The bodies without which a level is won sooner, or at all: pairs of a lane and an index, ascending."""
    moment = soonest_by(world_of(level))
    return tuple([(at, index) for at, lane in enumerate(level.lanes) for index in range(len(lane.bodies))
                  if is_in_the_way(level, at, index, moment)])
