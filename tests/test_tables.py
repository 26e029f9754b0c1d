import random
import unittest
from fractions import Fraction

from drawn import any_piece, any_window, drawn_world, is_right_play
from helper import ODDITIES, LaneCase
from lanecross.errors import BadNumber, BadWorld
from lanecross.fronts import covers, front_at, is_front, least_of, lowest, spot_front, through
from lanecross.pieces import Piece
from lanecross.soonest import run_to
from lanecross.tables import fewest, soonest_by, table
from lanecross.turned import mirrored, moved, stretched, with_links, with_piece, without
from lanecross.worlds import World
from reference import Through, frac, number, places_to_ask, random_number

BANK, RAFT, SHORE = Piece(0, 9, (0, 0), (2, 2)), Piece(2, 8, (0, 3), (1, 4)), Piece(0, 9, (3, 3), (6, 6))
LINKS = [(0, 1, None), (1, 2, None), (0, 2, None)]
WORLD = World([BANK, RAFT, SHORE], LINKS, (0, 1, 0), [2])


def table_by(world, links):
    """The table by the words of the document: links by links, with the fronts of the links alone."""
    moment, place, at = world.start
    found = [() for _ in world.pieces]
    found[at] = spot_front(world.pieces[at], moment, place)
    for _ in range(links):
        before = list(found)
        for one, other, window in world.links:
            told = through(before[one], world.pieces[one], world.pieces[other], window)
            found[other] = least_of(world.pieces[other], found[other], told)
    return tuple(found)


def turned_table(told, of_moment, of_place):
    fronts = []
    for front in told:
        stretches = [[(number(of_place(frac(x))), number(of_moment(frac(t)))) for x, t in stretch] for stretch in front]
        if of_place(1) < of_place(0):
            stretches = [stretch[::-1] for stretch in stretches[::-1]]
        fronts.append(tuple(tuple(stretch) for stretch in stretches))
    return tuple(fronts)


class TableTest(LaneCase):
    def check_form(self, world, told):
        self.assertIsInstance(told, tuple)
        self.assertEqual(len(told), len(world.pieces))
        for piece, front in zip(world.pieces, told):
            self.assertIs(is_front(piece, front), True)
            self.assertTrue(isinstance(front, tuple) and all(isinstance(stretch, tuple) for stretch in front))

    def test_by_links(self):
        grown = 0
        source = random.Random(201)
        for _ in range(120):
            world = drawn_world(source)
            many = len(world.pieces)
            for links in range(many + 2):
                told = table(world, links)
                self.check_form(world, told)
                self.assertEqual(told, table_by(world, links))
                self.assertEqual(table(world=world, links=links), told)
            last = table(world)
            self.assertEqual(last, table(world, None))
            for links in (many - 1, many, 10 ** 50):
                self.assertEqual(table(world, links), last)
            grown += last != table(world, 0)
        self.assertGreater(grown, 30)

    def test_nothing_leads_out(self):
        """Each link, place by place: what comes is behind the front, at each place."""
        came = 0
        source = random.Random(202)
        for _ in range(40):
            world = drawn_world(source, 4)
            told = table(world)
            for one, other, window in world.links:
                wanted = Through(told[one], world.pieces[one], world.pieces[other], window)
                for place in places_to_ask([told[one], told[other]], world.pieces[other]):
                    moment = wanted.at(place)
                    if moment is not None:
                        came += 1
                        found = front_at(told[other], number(place))
                        self.assertIsNotNone(found)
                        self.assertLessEqual(frac(found), moment)
        self.assertGreater(came, 200)

    def test_what_is_told_is_reached(self):
        """At, between and beside corners: a play leads there, and none to a moment before."""
        reached = ahead = 0
        source = random.Random(203)
        for _ in range(80):
            world = drawn_world(source)
            for at, (piece, front) in enumerate(zip(world.pieces, table(world))):
                for place in places_to_ask([front], piece):
                    moment = front_at(front, number(place))
                    if moment is None:
                        continue
                    run = run_to(world, (moment, number(place), at))
                    self.assertTrue(is_right_play(world, run))
                    self.assertEqual((run[0], run[-1]), (world.start, (moment, number(place), at)))
                    before = number(frac(moment) - Fraction(1, 999))
                    if piece.has(before, number(place)):
                        self.assertIsNone(run_to(world, (before, number(place), at)))
                        ahead += 1
                    reached += 1
        self.assertGreater(reached, 300)
        self.assertGreater(ahead, 100)

    def test_more_brings_nothing_later(self):
        source = random.Random(204)
        sooner = 0
        for _ in range(60):
            world = drawn_world(source)
            told = table(world)
            many = len(world.pieces)
            new = any_piece(source, world.pieces)
            links = [(at, many, any_window(source, (new,))) for at in range(many)] + [(many, at, None) for at in range(many)]
            wider = table(with_piece(world, new, links))
            self.assertTrue(all(covers(one, other) for one, other in zip(wider, told)))
            sooner += wider[:many] != told
            self.assertEqual(table(with_piece(world, new, [])), (*told, ()))
            if many > 1:
                more = table(with_links(world, [(0, many - 1, Piece(-50, 50, (-50, -50), (50, 50)))]))
                self.assertTrue(all(covers(one, other) for one, other in zip(more, told)))
            for at in range(many):
                less = table(without(world, at))
                self.assertTrue(all(covers(one, other) for one, other in zip(told, less)))
                self.assertEqual(less[at], table(world, 0)[at])
        self.assertGreater(sooner, 2)

    def test_turned_worlds(self):
        source = random.Random(205)
        for _ in range(60):
            world = drawn_world(source)
            moment, place, factor = random_number(source, 5, 3), random_number(source, 5, 3), number(abs(frac(random_number(source, 5, 3))) + 1)
            for turned, of_moment, of_place in (
                    (mirrored(world), lambda t: t, lambda x: -x), (moved(world, moment, place), lambda t: t + frac(moment), lambda x: x + frac(place)),
                    (stretched(world, factor), lambda t: t * frac(factor), lambda x: x * frac(factor))):
                for links in (None, 0, 1):
                    self.assertEqual(table(turned, links), turned_table(table(world, links), of_moment, of_place))
                self.assertEqual(fewest(turned), fewest(world))
                soonest = soonest_by(world)
                self.assertEqual(soonest_by(turned), None if soonest is None else number(of_moment(frac(soonest))))

    def test_by_hand(self):
        stand = Piece(0, 4, (0, 0), (2, 2))
        for other, told in ((Piece(0, 4, (2, 2), (3, 3)), (((2, 1), (3, 2)),)),  # an edge
                            (Piece(0, 4, (2, 3), (3, 4)), ()),  # a spot that is too early
                            (Piece(4, 6, (1, 1), (2, 2)), (((1, 4), (2, 4)),)),  # one moment
                            (Piece(4, 6, (2, 2), (3, 3)), (((2, 4), (3, 5)),)),  # one spot
                            (Piece(5, 6, (0, 0), (3, 3)), ()),
                            (Piece(1, 3, (1, 1), (1, 1)), (((1, 1),),)),  # without width
                            (Piece(0, 4, (-1, 3), (-1, 3)), (((0, 1), (3, 4)),))):  # a point that comes by at pace 1
            world = World([stand, other], [(0, 1, None)], (0, 1, 0), [1])
            self.assertEqual(table(world), ((((0, 1), (1, 0), (2, 1)),), told))
        window = Piece(3, 5, (1, -1), (1, -1))
        world = World([stand, stand], [(0, 1, window)], (0, 1, 0), [])
        self.assertEqual(table(world)[1], (((0, 4), (1, 3), (2, 4)),))
        world = World([stand, stand], [(0, 1, Piece(4, 5, (2, 9), (2, 9)))], (0, 1, 0), [])
        self.assertEqual(table(world)[1], (((2, 4),),))


class SoonestByTest(LaneCase):
    def test_soonest_by(self):
        source = random.Random(211)
        won = 0
        for _ in range(120):
            world = drawn_world(source)
            by = [soonest_by(world, links) for links in range(len(world.pieces) + 1)]
            for links, moment in enumerate(by):
                corners = [lowest(front) for at, front in enumerate(table(world, links)) if at in world.goals and front]
                self.assertEqual(moment, number(min(frac(corner[1]) for corner in corners)) if corners else None)
            self.assertEqual((soonest_by(world), soonest_by(world, None), soonest_by(world, 10 ** 60)), (by[-1],) * 3)
            self.assertEqual(by[-1], by[-2])
            least = [links for links, moment in enumerate(by) if moment is not None]
            self.assertEqual(fewest(world), least[0] if least else None)
            won += bool(least)
        self.assertGreater(won, 40)

    def test_goals(self):
        self.assertEqual([soonest_by(World([BANK, RAFT, SHORE], LINKS, (0, 1, 0), goals)) for goals in ([], [0], [1], [0, 2], [2])], [None, 0, 2, 0, 6])
        self.assertEqual([fewest(World([BANK, RAFT, SHORE], LINKS, (0, 1, 0), goals)) for goals in ([], [0], [1], [0, 2], [2])], [None, 0, 1, 0, 2])
        self.assertEqual(soonest_by(World([BANK, RAFT], [(0, 1, None)], (3, 0, 0), [1])), 4)
        self.assertEqual(soonest_by(World([BANK, RAFT], [(0, 1, Piece((9, 2), 5, (1, 1), (2, 2)))], (3, 0, 0), [1])), (9, 2))


class RefusedTest(LaneCase):
    def test_worlds(self):
        for value in (*ODDITIES, BANK, str(WORLD), World):
            for told in (table, soonest_by):
                self.check_part(BadWorld, "world", told, value)
                self.check_part(BadWorld, "world", told, value, -1)
            self.check_part(BadWorld, "world", fewest, value)

    def test_links(self):
        for value in (*ODDITIES, -1, -10 ** 50, (1, 2), (2, 1)):
            if value is not None:
                self.check_part(BadNumber, "links", table, WORLD, value)
                self.check_part(BadNumber, "links", soonest_by, WORLD, value)


if __name__ == "__main__":
    unittest.main()
