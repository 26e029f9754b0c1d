import random
import unittest
from fractions import Fraction

from drawn import as_lists, drawn_world, is_right_play, station_of
from helper import NO_NUMBERS, ODDITIES, LaneCase
from lanecross.errors import BadNumber, BadSpot, BadWorld, Misfit, NoPiece
from lanecross.fronts import front_at, is_front
from lanecross.papers import Denial, Paper
from lanecross.pieces import Piece, last_at
from lanecross.safe import (Alive, Doomed, Lost, Safe, alive_table, escape, is_alive, is_safe, last_call, last_stand, lasting, safe_table)
from lanecross.tables import soonest_by
from lanecross.worlds import World
from reference import Through, frac, has, number, places_to_ask

BANK, RAFT, SHORE = Piece(0, 5, (0, 0), (2, 2)), Piece(2, 8, (0, 3), (1, 4)), Piece(0, 9, (3, 3), (6, 6))
WORLD = World([BANK, RAFT, SHORE], [(0, 1, None), (1, 2, None)], (0, 1, 0), [2])
PAPERS = ((Safe, "safe", "play", Paper), (Alive, "alive", "play", Paper), (Lost, "lost", "table", Denial), (Doomed, "doomed", "table", Denial))


def opposite(row):
    return tuple(tuple((place, number(-frac(moment))) for place, moment in stretch) for stretch in row)


def wins_from(world, station):
    """Whether some play from a station comes to a goal, forward, by the table from there."""
    return soonest_by(World(world.pieces, world.links, station, world.goals)) is not None


def lasts_from(world, station):
    """Likewise to the end of the world: to a piece that begins there, everywhere."""
    many = len(world.pieces)
    behind = Piece(world.end, number(frac(world.end) + 1), (-1000, -1000), (1000, 1000))
    links = [*world.links, *[(at, many, None) for at in range(many)]]
    return soonest_by(World([*world.pieces, behind], links, station, [many])) is not None


class PapersTest(LaneCase):
    def test_parts(self):
        for made, word, name, kind in PAPERS:
            for value, kept in (([[0, [1, (2,)]]], ((0, (1, (2,))),)), (None, None), ("x", "x"), ({"a": [1]}, {"a": [1]}), ([], ()), (True, True)):
                for paper in (made(value), made(**{name: value})):
                    self.assertEqual((paper.word, paper.parts, getattr(paper, name)), (word, (kept,), kept))
                    self.assertIs(bool(paper), kind is Paper)
                    self.assertTrue(paper == made(kept))
                    for other in (made(5), Paper(word, value), Denial(word, value), (kept,), word, None, *[each[0](value) for each in PAPERS if each[0] is not made]):
                        self.assertFalse(paper == other)
                        self.assertTrue(paper != other)
            self.assertTrue(issubclass(made, Paper))
            self.assertEqual(issubclass(made, Denial), kind is Denial)


class LateTest(LaneCase):
    def check_form(self, world, told):
        self.assertIsInstance(told, tuple)
        self.assertEqual(len(told), len(world.pieces))
        for piece, row in zip(world.pieces, told):
            self.assertIs(is_front(piece.backward(), opposite(row)), True)

    def test_kept_place_by_place(self):
        """Backward, link by link: whoever comes in time was in time."""
        came = 0
        source = random.Random(401)
        for _ in range(30):
            world = drawn_world(source, 4)
            for told in (safe_table(world), alive_table(world)):
                self.check_form(world, told)
                for one, other, window in world.links:
                    grounds = [world.pieces[other].backward(), world.pieces[one].backward(), None if window is None else window.backward()]
                    wanted = Through(opposite(told[other]), *grounds)
                    for place in places_to_ask([told[one], told[other]], world.pieces[one]):
                        moment = wanted.at(place)
                        if moment is not None:
                            self.assertGreaterEqual(frac(front_at(told[one], number(place))), -moment)
                            came += 1
        self.assertGreater(came, 200)

    def test_goals_and_ends_are_in_time(self):
        source = random.Random(402)
        for _ in range(60):
            world = drawn_world(source)
            safe, alive = safe_table(world), alive_table(world)
            for at, piece in enumerate(world.pieces):
                for place in places_to_ask([safe[at], alive[at]], piece):
                    last = last_at(piece, number(place))
                    if at in world.goals:
                        self.assertEqual(front_at(safe[at], number(place)), last)
                    if last == world.end:
                        self.assertEqual(front_at(alive[at], number(place)), last)
                    for row in (safe[at], alive[at]):
                        self.assertTrue(front_at(row, number(place)) is None or frac(front_at(row, number(place))) <= frac(last))
            if not world.goals:
                self.assertEqual(safe, ((),) * len(world.pieces))

    def test_calls_and_stands(self):
        """At, between and beside corners: just in time, and a little too late."""
        source = random.Random(403)
        timely = late = 0
        for _ in range(50):
            world = drawn_world(source, 4)
            for told, is_so, last, tried in ((safe_table(world), is_safe, last_call, wins_from), (alive_table(world), is_alive, last_stand, lasts_from)):
                for at, piece in enumerate(world.pieces):
                    places = places_to_ask([told[at]], piece)
                    for place in source.sample(places, min(5, len(places))):
                        moment = front_at(told[at], number(place))
                        self.assertEqual(last(world, at, number(place)), moment)
                        if moment is None:
                            continue
                        for by in (0, Fraction(-1, 999), Fraction(1, 999)):
                            if has(piece, frac(moment) + by, place):
                                station = (number(frac(moment) + by), number(place), at)
                                self.assertIs(is_so(world, station), by <= 0)
                                self.assertIs(tried(world, station), by <= 0)
                                timely, late = timely + (by <= 0), late + (by > 0)
        self.assertGreater(timely, 200)
        self.assertGreater(late, 30)

    def test_by_hand(self):
        self.assertEqual([last_call(WORLD, 0, place) for place in (-1, 0, (1, 2), (3, 2), 2, (5, 2))], [None, (7, 2), 4, 5, 5, None])
        self.assertEqual([last_call(WORLD, 1, place) for place in (0, 3, 4, 5)], [2, 8, 8, None])
        self.assertEqual([last_stand(WORLD, 2, place) for place in (3, 6, 7)], [9, 9, None])
        ends = World([BANK, RAFT], [(0, 1, None)], (0, 1, 0), [0])
        self.assertEqual(safe_table(ends), ((((0, 5), (2, 5)),), ()))
        self.assertEqual(alive_table(ends), ((((0, (7, 2)), ((3, 2), 5), (2, 5)),), (((0, 2), (3, 8), (4, 8)),)))
        self.assertEqual([is_safe(ends, (5, 0, 0)), is_alive(ends, (5, 0, 0)), is_alive(ends, (5, 2, 0)), is_safe(ends, (5, 2, 1))], [True, False, True, False])


class PlaysOnTest(LaneCase):
    def check_play(self, world, play, station):
        self.assertIsInstance(play, tuple)
        self.assertTrue(all(isinstance(part, tuple) for part in play))
        self.assertTrue(is_right_play(world, play))
        self.assertEqual(play[0], station)

    def test_drawn(self):
        source = random.Random(411)
        counts = [0, 0, 0, 0]
        for _ in range(90):
            world = drawn_world(source)
            lost, doomed = Lost(safe_table(world)), Doomed(alive_table(world))
            for station in (world.start, *[station_of(source, world) for _ in range(4)]):
                way, stay = escape(world, station), lasting(world, station)
                self.assertIs(is_safe(world, station), bool(way))
                self.assertIs(is_alive(world, as_lists(station)), bool(stay))
                self.assertIs(bool(way), wins_from(world, station))
                self.assertIs(bool(stay), lasts_from(world, station))
                self.assertTrue(way == escape(World.read(str(world)), as_lists(station)))
                self.assertTrue(stay == lasting(World.read(str(world)), as_lists(station)))
                for paper, made, denial in ((way, Safe, lost), (stay, Alive, doomed)):
                    if paper:
                        self.assertIsInstance(paper, made)
                        self.check_play(world, paper.play, station)
                    else:
                        self.assertTrue(paper == denial)
                if way:
                    self.assertIn(way.play[-1][2], world.goals)
                if stay:
                    self.assertEqual(stay.play[-1][0], world.end)
                counts = [count + so for count, so in zip(counts, (bool(way), not way, bool(stay), not stay))]
        self.assertGreater(min(counts), 60)

    def test_by_hand(self):
        self.assertEqual(escape(WORLD, (9, 6, 2)), Safe([(9, 6, 2)]))
        self.assertEqual(lasting(WORLD, (9, 6, 2)), Alive([(9, 6, 2)]))
        self.assertEqual(lasting(WORLD, (8, 6, 2)), Alive([(8, 6, 2), (9, 6, 2)]))
        self.assertEqual(lasting(WORLD, (8, 3, 1)).play[1], (8, 3, 2))
        slope = World([Piece(0, 4, (0, 4), (1, 5))], [], (0, 0, 0), [])
        self.assertEqual(lasting(slope, (0, 0, 0)), Alive([(0, 0, 0), (4, 4, 0)]))
        swift = World([Piece(0, 4, (0, 8), (1, 9)), BANK], [(0, 1, None)], (0, 0, 0), [])
        self.assertEqual([is_alive(swift, station) for station in ((0, 0, 0), (1, 2, 0), (4, 8, 0), (1, 3, 0))], [True, True, False, False])
        self.assertEqual(lasting(swift, (4, 8, 0)), Doomed(alive_table(swift)))
        self.assertEqual(escape(swift, (0, 0, 0)), Lost(((), ())))


class RefusedTest(LaneCase):
    def test_worlds(self):
        for value in (*ODDITIES, BANK, str(WORLD), World):
            for told in (safe_table, alive_table):
                self.check_part(BadWorld, "world", told, value)
            for told in (is_safe, is_alive, escape, lasting):
                self.check_part(BadWorld, "world", told, value, None)
            for told in (last_call, last_stand):
                self.check_part(BadWorld, "world", told, value, None, None)

    def test_stations(self):
        for told in (is_safe, is_alive, escape, lasting):
            for value in (*ODDITIES, (0, 1), (0, 1, 3), (0, 1, -1), (0, 1, False), (0, 1, 0, 0), "010", [[0, 1, 0]], {0: 0, 1: 1, 2: 0}):
                self.check_part(BadSpot, "station", told, WORLD, value)
            for value in NO_NUMBERS:
                self.check_part(BadSpot, "station", told, WORLD, (value, 1, 0))
                self.check_part(BadSpot, "station", told, WORLD, [0, value, 0])
            for value in ((6, 1, 0), (-1, 1, 0), (0, 3, 0), (1, 0, 1), (10, 4, 2)):
                self.check_part(Misfit, "station", told, WORLD, value)
            told(station=(0, 1, 0), world=WORLD)

    def test_pieces_and_places(self):
        for told in (last_call, last_stand):
            for value in (*ODDITIES, 3, -1, 10 ** 60, (1, 2)):
                self.check_raises(NoPiece, {"value": value}, told, WORLD, value, None)
            for value in NO_NUMBERS:
                if value not in ((1, 2), [1, 2]):
                    self.check_part(BadNumber, "place", told, WORLD, 0, value)
            self.assertEqual(told(place=0, piece=0, world=WORLD), (7, 2))


if __name__ == "__main__":
    unittest.main()
