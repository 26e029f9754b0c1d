"""Stories tell what became of a row of commands."""

from lanecross.checks import is_number
from lanecross.films import checked_commands, engine_behind, played
from lanecross.papers import Paper, fixed
from lanecross.worlds import check_world, is_station


class Story(Paper):
    """The plain play that was made, the moment from which on it has won, or None, and the fate."""

    def __init__(self, play, won, fate):
        super().__init__("story", play, won, fate)
        self.play = fixed(play)
        self.won = fixed(won)
        self.fate = fixed(fate)


def story_of(engine):
    """The Story of an engine."""
    return Story(engine.play, engine.won, engine.fate)


def story(world, commands):
    """The Story of a row of commands."""
    return story_of(played(world, commands))


def is_told(engine, value):
    """Whether a Story is that of an engine, number by number: True and False are none."""
    if not isinstance(value.play, tuple):
        return False
    if not all([is_station(station, len(engine.world.pieces)) for station in value.play]):
        return False
    return (value.won is None or is_number(value.won)) and value == story_of(engine)


def shows_story(world, commands, value):
    """Whether any value is the right Story of a row of commands."""
    engine = played(world, commands)
    return isinstance(value, Story) and is_told(engine, value)


def are_alike(world, one, other):
    """Whether two rows of commands have equal stories."""
    check_world(world)
    rows = [checked_commands(one, "one"), checked_commands(other, "other")]
    first, second = [story_of(engine_behind(world, row)) for row in rows]
    return first == second
