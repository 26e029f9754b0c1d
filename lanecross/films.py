"""Rows of commands, the engines behind them, and films of plays."""

from lanecross.checks import is_number, is_row_of, is_within
from lanecross.commands import WORDS, number_from, tell
from lanecross.engine import Engine, is_pace, is_time
from lanecross.errors import BadLine, BadNumber, BadPlay, Misfit, Refused, TooMany
from lanecross.numerals import numeral
from lanecross.papers import fixed
from lanecross.plays import checked_play, hop_number, station_at
from lanecross.reckon import add, divide, floor, is_smaller, multiply, raw, subtract, told
from lanecross.texts import Reader
from lanecross.worlds import check_world, raw_spot

MOST_FRAMES = 1000


def is_command(value):
    """Whether any value is a command."""
    if not is_row_of(value, 2) or not isinstance(value[0], str):
        return False
    word, number = value
    if word == "run":
        return is_pace(number)
    if word == "hop":
        return is_within(number, 0, None)
    return word == "on" and is_time(number)


def checked_commands(value, part):
    """A row of commands that a caller passed, with tuples in the place of lists."""
    if not isinstance(value, (list, tuple)) or not all([is_command(command) for command in value]):
        raise BadPlay(part)
    return fixed(value)


def engine_behind(world, commands):
    """A new engine behind commands."""
    engine = Engine(world)
    for at, command in enumerate(commands):
        try:
            tell(engine, command)
        except BadNumber as wrong:
            raise BadLine(at, BadNumber(wrong.part)) from None
        except Refused as refusal:
            raise BadLine(at, Refused(refusal.why)) from None
    return engine


def played(world, commands):
    """A new engine behind a row of commands."""
    check_world(world)
    return engine_behind(world, checked_commands(commands, "commands"))


def leg_commands(world, one, other):
    """The commands for going from a station to another one."""
    found = []
    begin, end = raw_spot(one), raw_spot(other)
    time = subtract(end[0], begin[0])
    if is_smaller((0, 1), time):
        found.append(("run", told(divide(subtract(end[1], begin[1]), time))))
        found.append(("on", told(time)))
    if one[2] != other[2]:
        found.append(("hop", hop_number(world, one[2], other)))
    return found


def commands_for(world, play):
    """Commands by which an engine makes a play that starts: a run, an on and a hop for each leg, as it needs them."""
    check_world(world)
    stations = checked_play(world, play, "play")
    if stations[0] != world.start:
        raise Misfit("start")
    return tuple([command for one, other in zip(stations, stations[1:]) for command in leg_commands(world, one, other)])


def commands_text(commands):
    """The text of a row of commands."""
    row = checked_commands(commands, "commands")
    if len(row) == 0:
        return "-"
    return " / ".join([word + " " + numeral(number) for word, number in row])


def command_from(reader):
    """Takes a command."""
    word = reader.one_of(WORDS)
    return (word, number_from(reader, word))


def commands_of(text):
    """The row of commands whose text this is."""
    reader = Reader(text)
    if reader.ahead() == "-":
        reader.one_of(("-",))
        reader.close()
        return ()
    commands = [command_from(reader)]
    while not reader.is_done():
        reader.one_of(("/",))
        commands.append(command_from(reader))
    return tuple(commands)


def film(world, play, step):
    """Where a play is at its first moment, a step later, and so on, up to its last moment."""
    check_world(world)
    stations = checked_play(world, play, "play")
    if not is_number(step) or not is_smaller((0, 1), raw(step)):
        raise BadNumber("step")
    first, last = raw(stations[0][0]), raw(stations[-1][0])
    frames = 1 + floor(divide(subtract(last, first), raw(step)))
    if frames > MOST_FRAMES:
        raise TooMany("frames", MOST_FRAMES)
    moments = [add(first, multiply((at, 1), raw(step))) for at in range(frames)]
    return tuple([station_at(stations, moment) for moment in moments])
