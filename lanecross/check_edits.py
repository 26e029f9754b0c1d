"""Whether papers about what a world needs are right, whoever made them."""

from lanecross.check_tables import shows_never
from lanecross.checks import is_lot, is_row_of
from lanecross.edits import Bar, Needed, NoBar, pieces_in_question, won_soonest
from lanecross.papers import fixed, is_just
from lanecross.plays import is_play_of
from lanecross.turned import without_pieces
from lanecross.worlds import check_world


def is_winning_run(world, value):
    """Whether any value is a play that starts and wins."""
    if not is_play_of(world, value) or fixed(value[0]) != world.start:
        return False
    return any([station[2] in world.goals for station in value])


def are_tables(world, numbers, tables):
    """Whether tables tell, piece by piece of these numbers, that no play wins without it."""
    if not is_row_of(tables, len(numbers)):
        return False
    return all([shows_never(without_pieces(world, [number]), table) for number, table in zip(numbers, tables)])


def are_runs(world, numbers, runs):
    """Whether runs win, piece by piece of these numbers, without it."""
    if not is_row_of(runs, len(numbers)):
        return False
    return all([is_winning_run(without_pieces(world, [number]), run) for number, run in zip(numbers, runs)])


def shows_needed(world, value):
    """Whether any value is a right Needed of a world in which some play wins."""
    won_soonest(world)
    if not (isinstance(value, Needed) and is_just(value, "Needed")) or not is_lot(value.pieces, len(world.pieces)):
        return False
    others = [number for number in range(len(world.pieces)) if number not in value.pieces]
    return are_runs(world, others, value.runs) and are_tables(world, value.pieces, value.tables)


def is_bar(world, numbers, table):
    """Whether a table tells that no play wins without a lot of pieces, none of them the start's or a goal."""
    if not is_lot(numbers, len(world.pieces)):
        return False
    if not all([number in pieces_in_question(world) for number in numbers]):
        return False
    return shows_never(without_pieces(world, numbers), table)


def is_direct(world, run):
    """Whether a run wins, and all its stations are in the start's piece or in goals."""
    if not is_winning_run(world, run):
        return False
    return not any([station[2] in pieces_in_question(world) for station in run])


def shows_bar(world, value):
    """Whether any value is a Bar of any bar of a world, or a right NoBar."""
    check_world(world)
    if isinstance(value, Bar) and is_just(value, "Bar"):
        return is_bar(world, value.pieces, value.table)
    if isinstance(value, NoBar) and is_just(value, "NoBar"):
        return is_direct(world, value.run)
    return False
