import random
import unittest

from helper import NO_NUMBERS, ODDITIES, LaneCase
from lanecross.errors import BadNumber, BadPiece, BadSpot, BadWorld, Misfit, NoPiece, TooMany, Twice
from lanecross.fronts import through
from lanecross.pieces import Piece
from lanecross.turned import backward, mirrored, moved, stretched, with_links, with_piece, without
from lanecross.worlds import World
from reference import frac, number, random_number, random_piece

ROAD, BOAT = Piece(0, 4, (0, 0), (3, 3)), Piece(1, 5, (2, 4), (4, 6))
PLAIN = World([ROAD, BOAT], [(0, 1, None)], (0, 1, 0), [1])
WINDOWS = World([ROAD, BOAT, ROAD], [(0, 1, BOAT), (1, 2, None), (1, 0, ROAD), (2, 0, None)], ((1, 2), (5, 2), 0), [0, 2])


def random_world(source):
    pieces = [random_piece(source) for _ in range(source.randint(2, 5))]
    many = len(pieces)
    links = [(one, other, source.choice((None, random_piece(source)))) for one in range(many) for other in range(many)
             if one != other and source.randint(0, 1)]
    at = source.randrange(many)
    return World(pieces, links, (pieces[at].begin, pieces[at].left[0], at), [goal for goal in range(many) if source.randint(0, 1)])


class TurnedTest(LaneCase):
    def check_kept(self, world, turned):
        self.assertIsInstance(turned, World)
        self.assertEqual([link[:2] for link in turned.links], [link[:2] for link in world.links])
        self.assertEqual((turned.goals, turned.start[2], len(turned.pieces)), (world.goals, world.start[2], len(world.pieces)))
        self.assertEqual([link[2] is None for link in turned.links], [link[2] is None for link in world.links])

    def check_pieces(self, world, turned, moment, place, is_mirrored=False):
        pairs = list(zip(world.pieces, turned.pieces)) + [(one[2], other[2]) for one, other in zip(world.links, turned.links) if one[2] is not None]
        for one, other in pairs:
            edges = [tuple(place(frac(at)) for at in edge) for edge in (one.left, one.right)]
            if is_mirrored:
                edges.reverse()
            self.assertEqual((frac(other.begin), frac(other.end)), (moment(frac(one.begin)), moment(frac(one.end))))
            self.assertEqual([tuple(frac(at) for at in edge) for edge in (other.left, other.right)], edges)
        self.assertEqual((frac(turned.start[0]), frac(turned.start[1])), (moment(frac(world.start[0])), place(frac(world.start[1]))))

    def test_random_worlds(self):
        source = random.Random(71)
        for _ in range(60):
            world = random_world(source)
            before = str(world)
            by, way, factor = random_number(source, 9, 5), random_number(source, 9, 5), number(abs(frac(random_number(source, 9, 5))) + 1)
            told = mirrored(world), moved(world, by, way), stretched(world, factor)
            for turned in told:
                self.check_kept(world, turned)
            self.check_pieces(world, told[0], lambda t: t, lambda x: -x, True)
            self.check_pieces(world, told[1], lambda t: t + frac(by), lambda x: x + frac(way))
            self.check_pieces(world, told[2], lambda t: t * frac(factor), lambda x: x * frac(factor))
            self.assertEqual(frac(told[1].end), frac(world.end) + frac(by))
            self.assertTrue(mirrored(told[0]) == world)
            self.assertTrue(moved(told[1], number(-frac(by)), number(-frac(way))) == world)
            self.assertTrue(stretched(told[2], number(1 / frac(factor))) == world)
            self.assertTrue(moved(world, 0, 0) == world and stretched(world, 1) == world)
            self.assertEqual(str(world), before)

    def test_backward(self):
        source = random.Random(72)
        for _ in range(60):
            world = random_world(source)
            before = str(world)
            turned = backward(world, world.start, world.goals)
            self.assertEqual(turned.pieces, tuple(piece.backward() for piece in world.pieces))
            self.assertEqual(turned.links, tuple((other, one, window and window.backward()) for one, other, window in world.links))
            self.assertEqual((frac(turned.start[0]), turned.start[1:], turned.goals), (-frac(world.start[0]), world.start[1:], world.goals))
            self.assertTrue(backward(turned, turned.start, turned.goals) == world)
            self.assertTrue(backward(mirrored(world), mirrored(world).start, world.goals) == mirrored(turned))
            self.assertEqual(str(world), before)

    def test_backward_parts(self):
        told = backward(WINDOWS, [[5, 2], [7, 2], 1], [1])
        self.assertEqual(str(told), "piece -4 0 0 0 3 3 / piece -5 -1 4 2 6 4 / piece -4 0 0 0 3 3 / link 1 0 piece -5 -1 4 2 6 4 / link 2 1 / "
                         "link 0 1 piece -4 0 0 0 3 3 / link 0 2 / start -5/2 7/2 1 / goals 1")
        self.assertEqual(backward(goals=(), start=(0, 0, 0), world=PLAIN).goals, ())
        self.assertEqual(backward(PLAIN, (0, 0, 0), []).start, (0, 0, 0))

    def test_mirrored_text(self):
        self.assertEqual(str(mirrored(WINDOWS)), "piece 0 4 -3 -3 0 0 / piece 1 5 -4 -6 -2 -4 / piece 0 4 -3 -3 0 0 / link 0 1 piece 1 5 -4 -6 -2 -4 / "
                         "link 1 2 / link 1 0 piece 0 4 -3 -3 0 0 / link 2 0 / start 1/2 -5/2 0 / goals 0 2")

    def test_what_comes_through_turned(self):
        self.assertEqual(through([[(0, 1), (3, 1)]], ROAD, BOAT, None), (((2, 1), (3, 1), (5, 3), (6, 5)),))
        turned = mirrored(PLAIN)
        self.assertEqual(through([[(-3, 1), (0, 1)]], turned.pieces[0], turned.pieces[1], None), (((-6, 5), (-5, 3), (-3, 1), (-2, 1)),))

    def test_by_name(self):
        self.assertEqual(mirrored(world=PLAIN), mirrored(PLAIN))
        self.assertEqual(moved(place=[1, 2], moment=1, world=PLAIN), moved(PLAIN, 1, (1, 2)))
        self.assertEqual(stretched(factor=[1, 2], world=PLAIN), stretched(PLAIN, (1, 2)))
        self.assertEqual(without(piece=1, world=WINDOWS), without(WINDOWS, 1))
        self.assertEqual(with_piece(links=[], piece=ROAD, world=PLAIN), with_piece(PLAIN, ROAD, ()))
        self.assertEqual(with_links(links=[(1, 0, None)], world=PLAIN), with_links(PLAIN, [[1, 0, None]]))

    def test_great_numbers(self):
        great = 10 ** 100
        told = moved(stretched(PLAIN, (great + 1, 2)), great, (-1, great))
        self.assertEqual(told.end, number(frac((5 * great + 5, 2)) + great))
        self.assertTrue(stretched(moved(told, -great, (1, great)), (2, great + 1)) == PLAIN)


class LessAndMoreTest(LaneCase):
    def test_without(self):
        for piece, links in ((0, ((1, 2, None),)), (1, ((2, 0, None),)), (2, ((0, 1, BOAT), (1, 0, ROAD)))):
            told = without(WINDOWS, piece)
            self.assertEqual((told.links, told.pieces, told.start, told.goals), (links, WINDOWS.pieces, WINDOWS.start, WINDOWS.goals))
        self.assertEqual(len(WINDOWS.links), 4)

    def test_more(self):
        links = [[2, 0, ROAD], (1, 2, None)]
        told = with_piece(PLAIN, BOAT, links)
        self.assertEqual((told.pieces, told.links), ((ROAD, BOAT, BOAT), ((0, 1, None), (2, 0, ROAD), (1, 2, None))))
        self.assertEqual((told.start, told.goals), (PLAIN.start, PLAIN.goals))
        links[0].append(1)
        links.pop()
        self.assertEqual(told.links[1:], ((2, 0, ROAD), (1, 2, None)))
        self.assertTrue(with_links(PLAIN, []) == PLAIN)
        self.assertTrue(with_links(PLAIN, ((0, 1, ROAD), (0, 1, BOAT))).links == ((0, 1, None), (0, 1, ROAD), (0, 1, BOAT)))
        self.assertEqual(len(PLAIN.links), 1)

    def test_there_and_back(self):
        source = random.Random(73)
        for _ in range(40):
            world = random_world(source)
            many = len(world.pieces)
            more = with_piece(world, ROAD, [(many, 0, None), (0, many, BOAT)])
            self.assertTrue(World(more.pieces[:-1], without(more, many).links, more.start, more.goals) == world)
            self.assertTrue(with_links(World(world.pieces, [], world.start, world.goals), world.links) == world)


class RefusedTest(LaneCase):
    def test_worlds(self):
        for value in (*ODDITIES, ROAD, str(PLAIN), World):
            for told in (lambda: mirrored(value), lambda: moved(value, None, None), lambda: stretched(value, None), lambda: backward(value, None, None),
                         lambda: without(value, None), lambda: with_piece(value, None, None), lambda: with_links(value, None)):
                self.check_part(BadWorld, "world", told)

    def test_numbers(self):
        for value in NO_NUMBERS:
            self.check_part(BadNumber, "moment", moved, PLAIN, value, value)
            self.check_part(BadNumber, "place", moved, PLAIN, 0, value)
            self.check_part(BadNumber, "factor", stretched, PLAIN, value)
        for value in (0, -1, (-1, 2), -(10 ** 60)):
            self.check_part(BadNumber, "factor", stretched, PLAIN, value)

    def test_backward(self):
        for value in (*ODDITIES, (0, 1), (0, 1, 2), (0, 1, -1), (0, 1, True), (True, 1, 0), (0, (2, 4), 0), (0, 1, 0, 0), [0, 1, None], (1, 2, 3)):
            self.check_part(BadSpot, "start", backward, PLAIN, value, None)
        for value in (None, 0, True, "0", [2], [-1], [1, 0], [0, 0], [True], [None], {}, {0}):
            self.check_part(BadWorld, "goals", backward, PLAIN, (99, 1, 0), value)
        for start in ((99, 1, 0), (0, 4, 0), (-1, 1, 0), (3, (11, 2), 1), (-3, 4, 1)):
            self.check_part(Misfit, "start", backward, PLAIN, start, [0])

    def test_without(self):
        for value in (*ODDITIES, 2, -1, (0, 1), (1, 2), 10 ** 60):
            self.check_raises(NoPiece, {"value": value}, without, PLAIN, value)

    def test_more(self):
        for value in (*ODDITIES, str(ROAD), (0, 4, (0, 0), (3, 3)), PLAIN, Piece):
            self.check_part(BadPiece, "piece", with_piece, PLAIN, value, None)
        for value in (None, 0, "", {}, [None], (0, 1, None), [(0, 3, None)], [(2, 2, None)], [(0, 1)], [(0, 1, 0)], [(True, 0, None)], [(0, 1, True)]):
            self.check_part(BadWorld, "links", with_piece, PLAIN, ROAD, value)
            self.check_part(BadWorld, "links", with_links, PLAIN, value)
        self.check_part(BadWorld, "links", with_links, PLAIN, [(0, 2, None)])
        for links in ([[0, 1, None]], [(1, 0, None), [0, 1, None], [1, 0, None]], [(1, 0, ROAD), [1, 0, Piece(0, 4, (0, 0), (3, 3))]]):
            at = 1 if len(links) > 1 else 0
            for told in (lambda: with_piece(PLAIN, ROAD, links), lambda: with_links(PLAIN, links)):
                error = self.check_raises(Twice, {"value": links[at]}, told)
                self.assertIs(error.value, links[at])

    def test_too_many(self):
        unlike = [(one, other, None) for one in range(26) for other in range(26) if one != other]
        full = World([ROAD] * 60, unlike[:600], (0, 1, 0), [])
        self.check_raises(TooMany, {"what": "pieces", "most": 60}, with_piece, full, ROAD, [])
        self.check_raises(TooMany, {"what": "pieces", "most": 60}, with_piece, full, ROAD, [(60, 0, None), (0, 1, None)])
        self.check_part(BadWorld, "links", with_piece, full, ROAD, [(61, 0, None)])
        self.check_raises(TooMany, {"what": "links", "most": 600}, with_links, full, [(0, 1, None)])
        self.assertTrue(with_links(full, []) == full)
        some = World([ROAD] * 59, unlike[:599], (0, 1, 0), [])
        self.assertEqual(len(with_piece(some, ROAD, [(59, 0, None)]).links), 600)
        self.check_raises(TooMany, {"what": "links", "most": 600}, with_piece, some, ROAD, [(59, 0, None)] * 2)


if __name__ == "__main__":
    unittest.main()
