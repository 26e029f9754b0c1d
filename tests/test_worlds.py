import random
import unittest

from helper import NO_NUMBERS, ODDITIES, LaneCase
from lanecross.errors import BadSpot, BadWorld, Misfit, NoPiece, TooMany, Twice
from lanecross.pieces import Piece
from lanecross.worlds import World, links_from
from reference import random_piece

ROAD, BOAT = Piece(0, 4, (0, 0), (3, 3)), Piece(1, 5, (2, 4), (4, 6))
WORLD = World([ROAD, BOAT], [(0, 1, None), (1, 0, ROAD)], (0, (1, 2), 0), [1])
START = (0, 1, 0)
UNLIKE = [(one, other, None) for one in range(26) for other in range(26) if one != other]


class PartsTest(LaneCase):
    def test_tuples_in_their_order(self):
        pieces, links, start, goals = [BOAT, ROAD, BOAT], [[2, 0, None], [0, 1, ROAD], (0, 1, BOAT), (0, 1, None)], [[3, 2], [5, 2], 1], [0, 2]
        world = World(pieces, links, start, goals)
        self.assertEqual(world.pieces, (BOAT, ROAD, BOAT))
        self.assertEqual(world.links, ((2, 0, None), (0, 1, ROAD), (0, 1, BOAT), (0, 1, None)))
        self.assertEqual((world.start, world.goals, world.end), (((3, 2), (5, 2), 1), (0, 2), 5))
        pieces.append(ROAD), links[0].append(1), links.pop(), start.append(3), start[0].append(4), goals.clear()
        self.assertEqual((len(world.pieces), world.links[0], len(world.links)), (3, (2, 0, None), 4))
        self.assertEqual((world.start, world.goals), (((3, 2), (5, 2), 1), (0, 2)))
        self.assertTrue(all(isinstance(part, tuple) for part in (world.pieces, world.links, world.start, world.goals, *world.links)))

    def test_by_name(self):
        self.assertEqual(World(goals=(), start=START, links=(), pieces=(ROAD,)), World([ROAD], [], list(START), []))
        self.assertEqual(links_from(piece=1, world=WORLD), (1,))

    def test_end(self):
        self.assertEqual(World([ROAD], [], START, []).end, 4)
        self.assertEqual(World([ROAD, Piece(0, (17, 4), (0, 0), (0, 0)), Piece(0, (17, 5), (0, 0), (0, 0))], [], START, []).end, (17, 4))
        self.assertEqual(World([Piece(-5, -3, (0, 0), (1, 1)), Piece(-9, (-7, 2), (0, 0), (0, 0))], [], (-4, 0, 0), []).end, -3)

    def test_equal(self):
        parts = ([ROAD, BOAT], [(0, 1, None), (1, 0, ROAD)], (0, (1, 2), 0), [1])
        twin = World([Piece(0, 4, [0, 0], [3, 3]), Piece(1, 5, (2, 4), (4, 6))], ((0, 1, None), [1, 0, Piece(0, 4, (0, 0), (3, 3))]), [0, [1, 2], 0], (1,))
        self.assertTrue(WORLD == twin)
        self.assertFalse(WORLD != twin)
        changes = ([BOAT, ROAD], [ROAD, BOAT, BOAT], [ROAD, ROAD]), ([], [(1, 0, ROAD), (0, 1, None)], [(0, 1, None)], [(0, 1, None), (1, 0, BOAT)]), (
            (0, 1, 0), (1, (1, 2), 0), (3, 3, 1)), ([], [0], [0, 1])
        for at, others in enumerate(changes):
            for other in others:
                if at == 0 and other[0] is BOAT:
                    continue
                self.assertFalse(WORLD == World(*parts[:at], other, *parts[at + 1:]))
        for other in (None, 0, str(WORLD), parts, ROAD):
            self.assertFalse(WORLD == other)
            self.assertTrue(WORLD != other)

    def test_methods_stand_in_the_class(self):
        for name in ("__init__", "__eq__", "__str__", "read"):
            self.assertIn(name, vars(World))

    def test_links_from(self):
        world = World([ROAD, BOAT, ROAD], [(2, 0, None), (0, 1, None), (2, 1, None), (0, 1, ROAD), (2, 0, BOAT)], START, [])
        self.assertEqual([links_from(world, piece) for piece in range(3)], [(1, 3), (), (0, 2, 4)])
        for value in (*ODDITIES, 3, -1, 10 ** 60, (0, 1), (1, 2)):
            self.check_raises(NoPiece, {"value": value}, links_from, world, value)
            self.check_part(BadWorld, "world", links_from, value, value)

    def test_text_and_back(self):
        source = random.Random(61)
        for _ in range(40):
            pieces = [random_piece(source) for _ in range(source.randint(1, 5))]
            links = [(one, other, source.choice((None, random_piece(source)))) for one in range(len(pieces)) for other in range(len(pieces)) if one != other]
            at = source.randrange(len(pieces))
            start = (pieces[at].begin, pieces[at].left[0], at)
            world = World(pieces, links, start, [goal for goal in range(len(pieces)) if source.randint(0, 1)])
            self.assertTrue(World.read(str(world)) == world)
            self.assertEqual(str(World.read(str(world))), str(world))


class RefusedTest(LaneCase):
    def test_pieces(self):
        for value in (*ODDITIES, ROAD, [ROAD, None], [ROAD, str(ROAD)], [(0, 4, (0, 0), (3, 3))], {0: ROAD}, [[ROAD]], WORLD, [Piece]):
            self.check_part(BadWorld, "pieces", World, value, None, None, None)

    def test_links(self):
        for value in (None, 0, "", {}, (0, 1, None), [None], [()], [(0, 1)], [(0, 1, None, None)], [(0, 0, None)], [(0, 2, None)], [(-1, 0, None)],
                      [(True, 0, None)], [(0, True, None)], [(0, 1, False)], [(0, 1, str(ROAD))], [(0, 1, 0)], [(0, 1, ())], [(0, "1", None)],
                      [((0, 1), 1, None)], [(0, 1, None), None], ["01N"], [{0: 1, 1: 2, 2: 3}], [(0, 1, WORLD)], [(0, 1.0, None)], {(0, 1, None)}):
            self.check_part(BadWorld, "links", World, [ROAD, BOAT], value, None, None)
        self.check_part(BadWorld, "links", World, [ROAD], [(0, 1, None)], START, [])

    def test_start(self):
        for value in (*ODDITIES, (0, 1), (0, 1, 2), (0, 1, -1), (0, 1, True), (0, 1, None), (0, 1, 0, 0), "010", (0, 1, (0, 1))):
            self.check_part(BadSpot, "start", World, [ROAD, BOAT], [], value, None)
        for value in NO_NUMBERS:
            self.check_part(BadSpot, "start", World, [ROAD, BOAT], [], (value, 1, 0), [])
            self.check_part(BadSpot, "start", World, [ROAD, BOAT], [], (1, value, 0), [])

    def test_goals(self):
        for value in (*ODDITIES, [2], [-1], [0, 0], [1, 0], [True], [False, 1], [None], [[0]], "0", {0}, [0, 1, 2], [(0, 1)], 0):
            if value not in ((), [], [1], (1,)):
                self.check_part(BadWorld, "goals", World, [ROAD, BOAT], [], (0, 9, 0), value)

    def test_start_that_does_not_fit(self):
        for start in ((0, 4, 0), (5, 1, 0), (-1, 1, 0), (0, (-1, 100), 0), (0, 3, 1), (3, (11, 2), 1)):
            self.check_part(Misfit, "start", World, [ROAD, BOAT], [(0, 1, None)] * 2, start, [1])
            self.check_part(Misfit, "start", World, [ROAD] * 61 + [BOAT], [(0, 1, None)] * 601, (*start[:2], 61 * start[2]), [])

    def test_too_many(self):
        pieces, most = {"what": "pieces", "most": 60}, {"what": "links", "most": 600}
        self.assertEqual(len(World([ROAD] * 60, [], START, list(range(60))).pieces), 60)
        self.check_raises(TooMany, pieces, World, [ROAD] * 61, [], START, [])
        self.check_raises(TooMany, pieces, World, [ROAD] * 61, [(0, 1, None)] * 601, START, [])
        self.assertEqual(len(World([ROAD] * 26, UNLIKE[:600], START, []).links), 600)
        self.check_raises(TooMany, most, World, [ROAD] * 26, UNLIKE[:601], START, [])
        self.check_raises(TooMany, most, World, [ROAD] * 26, [(0, 1, None)] * 601, START, [])

    def test_twice(self):
        same = [0, 1, Piece(0, 4, (0, 0), (3, 3))]
        for links, at in (([(0, 1, None), (0, 1, BOAT), (0, 1, None)], 2), ([(0, 1, ROAD), (1, 0, ROAD), same, (1, 0, ROAD)], 2),
                          ([(0, 1, None), [0, 1, None], (0, 1, None)], 1), ((*UNLIKE[:599], UNLIKE[3]), 599)):
            pieces = [ROAD] * 26
            error = self.check_raises(Twice, {"value": links[at]}, World, pieces, links, START, [])
            self.assertIs(error.value, links[at])
        World([ROAD, BOAT], [(0, 1, None), (1, 0, None), (0, 1, ROAD), (1, 0, ROAD), (0, 1, BOAT)], START, [])

    def test_first_parameter_first(self):
        self.check_part(BadWorld, "pieces", World, [], None, None, None)
        self.check_part(BadWorld, "links", World, [ROAD], None, None, None)
        self.check_part(BadSpot, "start", World, [ROAD], [], None, None)
        self.check_part(BadWorld, "goals", World, [ROAD], [], (9, 9, 0), None)
        self.check_part(BadWorld, "goals", World, [ROAD] * 61, [(0, 1, None)] * 601, (9, 9, 0), [61])


if __name__ == "__main__":
    unittest.main()
