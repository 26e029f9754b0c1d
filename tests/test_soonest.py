import random
import unittest
from fractions import Fraction

from drawn import as_lists, drawn_world, is_right_play, station_of
from helper import NO_NUMBERS, ODDITIES, LaneCase
from lanecross.errors import BadSpot, BadWorld, Misfit
from lanecross.fronts import front_at, is_behind
from lanecross.papers import Denial, Paper
from lanecross.pieces import Piece
from lanecross.plays import starts, wins_at
from lanecross.soonest import Never, Soonest, run_to, soonest
from lanecross.tables import soonest_by, table
from lanecross.worlds import World
from reference import frac, number, places_to_ask

BANK, RAFT, SHORE = Piece(0, 9, (0, 0), (2, 2)), Piece(2, 8, (0, 3), (1, 4)), Piece(0, 9, (3, 3), (6, 6))
WORLD = World([BANK, RAFT, SHORE], [(0, 1, None), (1, 2, None), (0, 2, None)], (0, 1, 0), [2])
APART = World([BANK, SHORE], [(0, 1, None)], (0, 1, 0), [1])


def rafts(many):
    """A bank, rafts side by side that come one behind another, and a shore."""
    pieces = [Piece(0, 100, (0, 0), (2, 2))]
    pieces += [Piece(2 * at, 2 * at + 12, (2 * at, 2 * at + 4), (2 * at + 2, 2 * at + 6)) for at in range(many)]
    pieces.append(Piece(0, 100, (2 * many + 3, 2 * many + 3), (2 * many + 6, 2 * many + 6)))
    return World(pieces, [(at, at + 1, None) for at in range(many + 1)], (0, 1, 0), [many + 1])


def great_chain(source, many):
    """Rafts in a row, drawn: each one meets the next one."""
    pieces = [Piece(0, 400, (0, 0), (5, 5))]
    place = Fraction(5)
    for at in range(many):
        begin, pace = Fraction(source.randint(0, 60), 6) + 8 * at, Fraction(source.randint(-2, 2), source.choice((17, 19, 21)))
        time = source.randint(30, 50)
        low = place - source.randint(1, 3)
        high = place + source.randint(3, 6)
        place = high
        pieces.append(Piece(number(begin), number(begin + time), (number(low), number(low + pace * time)), (number(high), number(high + pace * time))))
    links = [(at, at + 1, None) for at in range(many)] + [(at + 1, at, None) for at in range(many)]
    return World(pieces, links, (0, (1, 3), 0), [many])


class PapersTest(LaneCase):
    def test_parts(self):
        for made, word, names, kind in ((Soonest, "soonest", ("moment", "run", "table"), Paper), (Never, "never", ("table",), Denial)):
            self.check_paper_class(made, word, names, kind)
        self.assertFalse(Never((1,)) == Soonest((1,), (1,), (1,)))
        self.assertTrue(Soonest(1, 2, 3) == Soonest(True, 2, 3))

    def test_lists_that_are_changed(self):
        value = [[0, [1, 2]]]
        papers = Soonest(value, value, value), Never(value)
        value[0].append(1)
        value.append(2)
        self.assertEqual([paper.table for paper in papers], [((0, (1, 2)),)] * 2)


class RunsTest(LaneCase):
    def check_run(self, world, run, station):
        self.assertIsInstance(run, tuple)
        self.assertTrue(all(isinstance(part, tuple) for part in run))
        self.assertTrue(is_right_play(world, run))
        self.assertTrue(starts(world, run))
        self.assertEqual(run[-1], station)
        pieces = [each[2] for each in run]
        self.assertEqual(len(set(pieces[:-1])), len(pieces[:-1]))
        self.assertNotIn(pieces[-1], pieces[:-2])
        self.assertLessEqual(len(run), len(world.pieces) + 1)

    def test_soonest(self):
        source = random.Random(301)
        won = 0
        for _ in range(200):
            world = drawn_world(source)
            told, moment = soonest(world), soonest_by(world)
            self.assertEqual(told.table, table(world))
            self.assertTrue(told == soonest(World.read(str(world))))
            if moment is None:
                self.assertTrue(told == Never(table(world)))
                continue
            self.assertIsInstance(told, Soonest)
            self.assertEqual(told.moment, moment)
            self.check_run(world, told.run, told.run[-1])
            self.assertEqual((told.run[-1][0], wins_at(world, told.run)), (moment, moment))
            self.assertIn(told.run[-1][2], world.goals)
            won += 1
        self.assertGreater(won, 70)

    def test_run_to(self):
        source = random.Random(302)
        found = missed = 0
        for _ in range(80):
            world = drawn_world(source)
            told = table(world)
            stations = [world.start, *[station_of(source, world) for _ in range(6)]]
            for at, piece in enumerate(world.pieces):
                for place in source.sample(places_to_ask([told[at]], piece), 3):
                    moment = front_at(told[at], number(place))
                    for by in (0, Fraction(1, 999), Fraction(-1, 999), 1):
                        if moment is not None and piece.has(number(frac(moment) + by), number(place)):
                            stations.append((number(frac(moment) + by), number(place), at))
            for station in stations:
                run = run_to(world, station)
                self.assertEqual(run is not None, is_behind(told[station[2]], station[0], station[1]))
                self.assertEqual(run_to(World.read(str(world)), as_lists(station)), run)
                if run is None:
                    missed += 1
                    continue
                self.check_run(world, run, station)
                found += 1
            self.assertEqual(run_to(world, world.start), (world.start,))
        self.assertGreater(found, 300)
        self.assertGreater(missed, 100)

    def test_chains(self):
        self.assertTrue(soonest(rafts(0)) == Never(table(rafts(0))))
        for many in (1, 2, 15, 16):
            world = rafts(many)
            told = soonest(world)
            self.assertEqual(told.moment, soonest_by(world))
            self.check_run(world, told.run, told.run[-1])
            self.assertGreaterEqual(len(told.run), many + 2)
        source = random.Random(303)
        won = 0
        for _ in range(12):
            world = great_chain(source, 16)
            told = soonest(world)
            if told:
                won += 1
                self.check_run(world, told.run, told.run[-1])
                self.assertEqual(len({station[2] for station in told.run}), 17)
        self.assertGreater(won, 3)

    def test_by_hand(self):
        self.assertEqual(soonest(World([BANK, RAFT], [], (3, 1, 0), [0])), Soonest(3, [(3, 1, 0)], table(World([BANK, RAFT], [], (3, 1, 0), []))))
        self.assertEqual(soonest(World([BANK], [], (3, 1, 0), [])), Never(table(World([BANK], [], (3, 1, 0), []))))
        self.assertEqual(soonest(World([BANK, RAFT], [(0, 1, None)], (2, 1, 0), [1])).run, ((2, 1, 0), (2, 1, 1)))
        self.assertEqual(run_to(WORLD, (5, 1, 0)), ((0, 1, 0), (5, 1, 0)))
        self.assertEqual(run_to(WORLD, (0, (3, 2), 0)), None)
        self.assertEqual(run_to(WORLD, [[1, 2], [3, 2], 0]), ((0, 1, 0), ((1, 2), (3, 2), 0)))
        self.assertEqual(run_to(WORLD, (2, 1, 1)), ((0, 1, 0), (2, 1, 1)))
        self.assertEqual(run_to(WORLD, (6, 3, 2))[-1], (6, 3, 2))
        self.assertIsNone(run_to(WORLD, (5, 3, 2)))
        self.assertIsNone(run_to(APART, (9, 3, 1)))
        # There and back would come to a piece twice.
        both = World([BANK, RAFT], [(0, 1, None), (1, 0, None)], (0, 1, 0), [])
        self.assertEqual([station[2] for station in run_to(both, (8, 0, 0))], [0, 0])

    def test_numbers_stay_short(self):
        source = random.Random(304)
        for _ in range(30):
            world = great_chain(source, 3)
            told = soonest(world)
            if told:
                self.assertLess(max(len(str(abs(part))) for station in told.run for value in station[:2]
                                    for part in ([value] if isinstance(value, int) else value)), 60)


class RefusedTest(LaneCase):
    def test_refused(self):
        for value in (*ODDITIES, BANK, str(WORLD), World):
            self.check_part(BadWorld, "world", soonest, value)
            self.check_part(BadWorld, "world", run_to, value, None)
        for value in (*ODDITIES, (0, 1), (0, 1, 3), (0, 1, -1), (0, 1, False), (0, 1, None), (0, 1, 0, 0), "010", [[0, 1, 0]], {0: 0, 1: 1, 2: 0}):
            self.check_part(BadSpot, "station", run_to, WORLD, value)
        for value in NO_NUMBERS:
            self.check_part(BadSpot, "station", run_to, WORLD, (value, 1, 0))
            self.check_part(BadSpot, "station", run_to, WORLD, [0, value, 0])
        for value in ((10, 4, 2), (-1, 1, 0), (0, 3, 0), (1, 0, 1), (5, (1000001, 1000000), 1)):
            self.check_part(Misfit, "station", run_to, WORLD, value)
        self.assertEqual(run_to(station=(0, 1, 0), world=WORLD), ((0, 1, 0),))
        self.assertTrue(soonest(world=WORLD) == soonest(WORLD))


if __name__ == "__main__":
    unittest.main()
