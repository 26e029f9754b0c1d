"""What a world needs: pieces and links without which no play wins, delays, and bars."""

from lanecross.errors import Refused, TooMany
from lanecross.numbers import minus
from lanecross.papers import Denial, Paper, fixed
from lanecross.plays import lets_through
from lanecross.soonest import soonest
from lanecross.turned import with_just, without, without_pieces
from lanecross.worlds import check_world, raw_spot

MOST_IN_QUESTION = 6


class Needed(Paper):
    """The pieces that are needed; for each a table of the world without it, for each other one a run."""

    def __init__(self, pieces, tables, runs):
        super().__init__("needed", pieces, tables, runs)
        self.pieces = fixed(pieces)
        self.tables = fixed(tables)
        self.runs = fixed(runs)


class Bar(Paper):
    """Pieces without which no play wins: a table of the world without them."""

    def __init__(self, pieces, table):
        super().__init__("bar", pieces, table)
        self.pieces = fixed(pieces)
        self.table = fixed(table)


class NoBar(Denial):
    """There is no bar: a run through the start's piece and goals only."""

    def __init__(self, run):
        super().__init__("nobar", run)
        self.run = fixed(run)


def won_soonest(world):
    """The Soonest of a world in which some play wins."""
    answer = soonest(world)
    if not answer:
        raise Refused("never")
    return answer


def hop_links(world, piece, station):
    """The numbers of all links from a piece that let a station through."""
    spot = raw_spot(station)
    return [at for at, link in enumerate(world.links)
            if link[0] == piece and link[1] == station[2] and lets_through(world, link, spot)]


def only_links(world, run):
    """The numbers of the links without which a run is none: those that alone let a hop through."""
    found = []
    for one, other in zip(run, run[1:]):
        numbers = hop_links(world, one[2], other)
        if len(numbers) == 1:
            found.append(numbers[0])
    return found


def without_link(world, number):
    """The world with all links but the one with this number."""
    return with_just(world, [link for at, link in enumerate(world.links) if at != number])


def needed_links(world):
    """The numbers of the links without which no play wins, ascending."""
    # Only a link that a run to win depends on can be needed.
    numbers = sorted(only_links(world, won_soonest(world).run))
    return tuple([number for number in numbers if not soonest(without_link(world, number))])


def answers_without(world, answer):
    """For each piece the Soonest or the Never of the world without it, from the Soonest of the world.

    Without a piece that its run does not come to, the run is soonest still.
    """
    pieces = [station[2] for station in answer.run]
    return [soonest(without(world, at)) if at in pieces else answer for at in range(len(world.pieces))]


def delay_by(one, other):
    """By how much one answer is later than the Soonest other; None if it is a Never."""
    if not one:
        return None
    return minus(one.moment, other.moment)


def delays(world):
    """For each piece its delay, None if it is needed."""
    answer = won_soonest(world)
    return tuple([delay_by(one, answer) for one in answers_without(world, answer)])


def needed(world):
    """The Needed of a world in which some play wins."""
    answers = answers_without(world, won_soonest(world))
    pieces = [at for at, answer in enumerate(answers) if not answer]
    tables = [answer.table for answer in answers if not answer]
    return Needed(pieces, tables, [answer.run for answer in answers if answer])


def pieces_in_question(world):
    """The numbers of the pieces that are neither the start's nor goals."""
    return [at for at in range(len(world.pieces)) if at != world.start[2] and at not in world.goals]


def lots_of_length(numbers, length):
    """The lots of so many of some ascending numbers, ascending."""
    if length == 0:
        return [()]
    return [(first, *rest) for at, first in enumerate(numbers) for rest in lots_of_length(numbers[at + 1:], length - 1)]


def lots_of_numbers(numbers):
    """The lots of ascending numbers, shorter ones first, those of one length ascending; all of them last."""
    return [lot for length in range(len(numbers) + 1) for lot in lots_of_length(numbers, length)]


def comes_to(run, numbers):
    """Whether a run has a station in one of these pieces."""
    return any([station[2] in numbers for station in run])


def least_bar(world):
    """The Bar of the least bar of a world, or the NoBar if there is none."""
    check_world(world)
    numbers = pieces_in_question(world)
    if len(numbers) > MOST_IN_QUESTION:
        raise TooMany("pieces", MOST_IN_QUESTION)
    lots = lots_of_numbers(numbers)
    whole = soonest(without_pieces(world, lots[-1]))
    if whole:
        return NoBar(whole.run)
    runs = []
    for lot in lots[:-1]:
        # A run that comes to none of these pieces wins without them, too.
        if all([comes_to(run, lot) for run in runs]):
            answer = soonest(without_pieces(world, lot))
            if not answer:
                return Bar(lot, answer.table)
            runs.append(answer.run)
    return Bar(lots[-1], whole.table)
