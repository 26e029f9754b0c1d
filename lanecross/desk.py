"""A desk: an engine that is told lines, with answers and a log of its deeds."""

from lanecross.commands import WORDS, number_from, tell
from lanecross.engine import PLAYS, Engine, can_hop, copied, station_of
from lanecross.errors import Nothing, TooMany
from lanecross.fronts import front_at
from lanecross.numerals import integer_text, numeral
from lanecross.pictures import scene
from lanecross.safe import is_safe
from lanecross.tables import soonest_by, table
from lanecross.texts import Reader
from lanecross.worlds import check_world

MOST_LINES = 200


def number_or(value, word):
    """The item of a number; the word if there is none."""
    if value is None:
        return word
    return numeral(value)


def station_items(station):
    """The items of a station."""
    return [numeral(station[0]), numeral(station[1]), integer_text(station[2])]


def answer_where(engine, _):
    """Moment, place, piece and pace."""
    return " ".join([*station_items(station_of(engine)), numeral(engine.pace)])


def answer_fate(engine, _):
    """The fate."""
    return engine.fate


def answer_won(engine, _):
    """The moment from which on it has won."""
    return number_or(engine.won, "-")


def answer_play(engine, _):
    """The stations of its play."""
    return " / ".join([" ".join(station_items(station)) for station in engine.play])


def answer_links(engine, _):
    """The numbers of the links by which it could hop now."""
    numbers = [number for number in range(len(engine.world.links)) if engine.fate == PLAYS and can_hop(engine, number)]
    if len(numbers) == 0:
        return "-"
    return " ".join([integer_text(number) for number in numbers])


def answer_soonest(engine, _):
    """The soonest moment at which anybody wins."""
    return number_or(soonest_by(engine.world), "never")


def answer_still(engine, _):
    """Whether it can win still."""
    if engine.fate == PLAYS and is_safe(engine.world, station_of(engine)):
        return "yes"
    return "no"


def answer_front(engine, numbers):
    """The moment from which on a piece can be reached at a place."""
    piece, place = numbers
    return number_or(front_at(table(engine.world)[piece], place), "-")


def answer_scene(engine, numbers):
    """The rows of the scene at a moment."""
    return "|".join(scene(engine.world, numbers[0]))


ASKS = {
    "where": answer_where, "fate": answer_fate, "won": answer_won, "play": answer_play, "links": answer_links,
    "soonest": answer_soonest, "still": answer_still, "front": answer_front, "scene": answer_scene}


def numbers_from(reader, word, world):
    """Takes the numbers behind the word of a line."""
    if word == "hop":
        return [reader.integer(0, len(world.links))]
    if word in WORDS:
        return [number_from(reader, word)]
    if word == "front":
        return [reader.integer(0, len(world.pieces)), reader.number()]
    if word == "scene":
        return [reader.number()]
    return []


def parts_of(line, world):
    """The word of a line, and the numbers behind it."""
    reader = Reader(line)
    word = reader.one_of((*WORDS, *list(ASKS)))
    numbers = numbers_from(reader, word, world)
    reader.close()
    return word, numbers


class Desk:
    """A desk with an empty log and a new engine. It changes."""

    def __init__(self, world):
        check_world(world)
        self.world = world
        self.log = ()
        # The engines behind no deed, behind the first one, and so on: none of them is told anything more.
        self.engines = [Engine(world)]
        self.undone = []

    def __eq__(self, other):
        return isinstance(other, Desk) and self.world == other.world and self.log == other.log

    def __len__(self):
        return len(self.log)

    def told(self, line):
        """Tells it a line; the answer."""
        word, numbers = parts_of(line, self.world)
        if word in WORDS:
            return do_deed(self, line, (word, numbers[0]))
        ask = ASKS[word]
        return ask(self.engines[-1], numbers)

    def undo(self):
        """Takes back the last deed; its line."""
        if len(self.log) == 0:
            raise Nothing()
        line = self.log[-1]
        self.undone.append((line, self.engines.pop()))
        self.log = self.log[:-1]
        return line

    def redo(self):
        """Does the deed again that was taken back last; the answer."""
        if len(self.undone) == 0:
            raise Nothing()
        line, engine = self.undone.pop()
        return note_deed(self, line, engine)

    def twin(self):
        """A second desk with an equal log, and nothing to be done again."""
        other = Desk(self.world)
        other.log = self.log
        other.engines = list(self.engines)
        return other


def do_deed(desk, line, command):
    """A deed is told and done; the answer."""
    if len(desk.log) >= MOST_LINES:
        raise TooMany("lines", MOST_LINES)
    engine = copied(desk.engines[-1])
    tell(engine, command)
    desk.undone = []
    return note_deed(desk, line, engine)


def note_deed(desk, line, engine):
    """The log has a line more, behind which the engine stands; the answer."""
    desk.log = (*desk.log, line)
    desk.engines.append(engine)
    return engine.fate
