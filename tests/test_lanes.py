import random
import unittest
from fractions import Fraction

from drawn import as_lists
from grounds import cuts_by_words, drawn_lane, free_between, free_by_words, ground_by_words
from helper import NO_NUMBERS, ODDITIES, LaneCase
from lanecross.errors import BadLevel, BadNumber, BadPiece
from lanecross.lanes import Body, Lane, cuts_of, ground_of
from lanecross.pieces import Piece, at_moment
from reference import frac, number

CAR = Piece(1, 4, (0, 3), (2, 5))
BODY = Body(CAR)
STREET = Lane("road", 4, [BODY])


def texts(pieces):
    return [str(piece) for piece in pieces]


class BodyTest(LaneCase):
    def test_parts(self):
        for lock in (None, 0, 1):
            for body in (Body(CAR, lock), Body(lock=lock, piece=CAR)):
                self.assertTrue(body.piece == CAR)
                self.assertIs(body.lock, lock)
                self.assertTrue(body == Body(Piece(1, 4, [0, 3], [2, 5]), lock))
                for other in (Body(CAR, 1 if lock is None else None), Body(Piece(1, 4, (0, 3), (2, 6)), lock), CAR, (CAR, lock), None, lock):
                    self.assertFalse(body == other)
                    self.assertTrue(body != other)
        self.assertIsNone(BODY.lock)
        self.assertFalse(Body(CAR, 0) == Body(CAR, 1))

    def test_refused(self):
        for value in (*ODDITIES, str(CAR), BODY, Piece):
            self.check_part(BadPiece, "piece", Body, value)
            self.check_part(BadPiece, "piece", Body, value, 7)
        for value in (*ODDITIES, 2, -1, 10 ** 60, (0, 1), "0", [0]):
            if value is not None:
                self.check_part(BadNumber, "lock", Body, CAR, value)


class LaneTest(LaneCase):
    def test_parts(self):
        bodies = [BODY, Body(CAR, 1), BODY]
        for kind in ("road", "river"):
            for wide in (4, (1, 2), [7, 3]):
                lane = Lane(kind, wide, bodies)
                self.assertEqual((lane.kind, lane.wide), (kind, wide if isinstance(wide, int) else tuple(wide)))
                self.assertTrue(lane.bodies == (BODY, Body(CAR, 1), BODY))
                self.assertIsInstance(lane.bodies, tuple)
                self.assertTrue(lane == Lane(bodies=tuple(bodies), wide=wide, kind=kind))
                for other in (Lane(kind, 5, bodies), Lane("road" if kind == "river" else "river", wide, bodies), Lane(kind, wide, bodies[:2]),
                              Lane(kind, wide, bodies[::-1][1:]), Lane(kind, wide), None, kind, (kind, wide, tuple(bodies))):
                    self.assertFalse(lane == other)
                    self.assertTrue(lane != other)
        lane = Lane("road", 4, bodies)
        bodies.clear()
        self.assertEqual(len(lane.bodies), 3)
        self.assertEqual(Lane("road", 4).bodies, ())
        for made, names in ((Body, ("__init__", "__eq__")), (Lane, ("__init__", "__eq__"))):
            for name in names:
                self.assertIn(name, vars(made))

    def test_many_bodies(self):
        for many in (0, 1, 23, 24):
            self.assertEqual(len(Lane("river", 4, [BODY] * many).bodies), many)
        for many in (25, 26, 100):
            self.check_part(BadLevel, "bodies", Lane, "river", 4, [BODY] * many)

    def test_refused(self):
        for value in (*ODDITIES, "bridge", "Road", "road ", b"road", ["road"], ("river",)):
            self.check_part(BadLevel, "kind", Lane, value, None, None)
            self.check_part(BadLevel, "kind", Lane, value, 4)
        for value in (*NO_NUMBERS, 0, -1, (-1, 2), -10 ** 60):
            if value not in ((1, 2), [1, 2]):
                self.check_part(BadNumber, "wide", Lane, "road", value, None)
        for value in (*ODDITIES, BODY, [None], [BODY, CAR], [CAR], {0: BODY}, [[BODY]], [BODY, None], (STREET,)):
            if value not in ((), []):
                self.check_part(BadLevel, "bodies", Lane, "road", 4, value)


class GroundTest(LaneCase):
    def test_refused(self):
        for told in (cuts_of, ground_of):
            for value in (*ODDITIES, BODY, [STREET], Lane):
                self.check_part(BadLevel, "lane", told, value, None, None)
            for value in (*NO_NUMBERS, 0, -1, (-1, 2)):
                if value not in ((1, 2), [1, 2]):
                    self.check_part(BadNumber, "end", told, STREET, value, None)
            for value in (*ODDITIES, 0, [2], [-1], [0, 0], [1, 0], [True], [False], [None], [[0]], "0", {0}, {0: 0}, [0, 1, 2], (0, 1, 1)):
                if value not in ((), [], [1], (1,)):
                    self.check_part(BadNumber, "keys", told, STREET, 5, value)
            for keys in ((), [], (0,), [1], [0, 1]):
                self.assertEqual(told(keys=keys, end=6, lane=STREET), told(STREET, 6))

    def test_drawn_lanes(self):
        source = random.Random(601)
        pieces = merged = 0
        for _ in range(250):
            lane, end = drawn_lane(source), source.choice((3, 5, (9, 2)))
            for keys in ((), (0,), (1,), (0, 1)):
                cuts = cuts_by_words(lane, end, keys)
                told = cuts_of(lane, end, keys)
                self.assertEqual(told, tuple(number(cut) for cut in cuts))
                self.assertEqual(cuts_of(lane, as_lists(end), list(keys)), told)
                ground = ground_of(lane, end, keys)
                self.assertIsInstance(ground, tuple)
                self.assertEqual(texts(ground), texts(ground_by_words(lane, end, keys)))
                self.assertEqual(texts(ground_of(lane, as_lists(end), list(keys))), texts(ground))
                self.check_free(lane, keys, cuts, ground)
                pieces += len(ground)
                merged += any(frac(piece.begin) < cut < frac(piece.end) for piece in ground for cut in cuts)
        self.assertGreater(pieces, 1500)
        self.assertGreater(merged, 200)

    def check_free(self, lane, keys, cuts, ground):
        """Between cuts the pieces have just the free places, each its own stretch; at cuts no more and no less than beside them."""
        for first, last in zip(cuts, cuts[1:]):
            for part in (Fraction(1, 2), Fraction(1, 5)):
                moment = first + (last - first) * part
                found = [at_moment(piece, number(moment)) for piece in ground]
                self.assertEqual(sorted(tuple(frac(at) for at in pair) for pair in found if pair is not None), free_between(lane, keys, moment))

    def test_many_bodies(self):
        source = random.Random(602)
        for many in (8, 12, 24):
            bodies = []
            while len(bodies) < many:
                bodies.extend(drawn_lane(source, 6, 4).bodies)
            for kind in ("road", "river"):
                lane = Lane(kind, 5, bodies[:many])
                self.assertEqual(cuts_of(lane, 6), tuple(number(cut) for cut in cuts_by_words(lane, 6)))
                self.assertLessEqual(len(cuts_of(lane, 6)), 2 * many + 2 + (many + 1) * (2 * many + 1))
                self.assertEqual(texts(ground_of(lane, 6)), texts(ground_by_words(lane, 6)))

    def check_ground(self, lane, end, wanted, keys=()):
        self.assertEqual(texts(ground_of(lane, end, keys)), wanted)
        self.assertEqual(texts(ground_by_words(lane, end, keys)), wanted)

    def test_by_hand(self):
        def road(*pieces):
            return Lane("road", 4, [Body(piece) for piece in pieces])

        def river(*pieces):
            return Lane("river", 4, [Body(piece) for piece in pieces])
        one, two = Piece(0, 5, (0, 0), (2, 2)), Piece(0, 5, (2, 2), (4, 4))
        self.check_ground(road(one, two), 5, [])  # no room between
        self.check_ground(river(one, two), 5, ["0 5 0 0 4 4"])
        self.check_ground(road(Piece(-1, 9, (0, 0), (4, 4))), 5, [])
        self.check_ground(road(Piece(-1, 9, (1, 1), (1, 1))), 5, ["0 5 0 0 4 4"])  # without width
        self.check_ground(river(Piece(-1, 9, (4, 4), (6, 6)), Piece(-1, 9, (-2, -2), (0, 0)), Piece(-1, 9, (5, 5), (6, 6))), 5, ["0 5 0 0 0 0", "0 5 4 4 4 4"])
        self.check_ground(river(Piece(5, 9, (0, 0), (4, 4)), Piece(-3, 0, (0, 0), (4, 4))), 5, [])
        # One goes on where another one ends, straight, or at another pace.
        self.check_ground(river(Piece(0, 2, (0, 2), (1, 3)), Piece(2, 5, (2, 5), (3, 6))), 3, ["0 3 0 3 1 4"])
        self.check_ground(river(Piece(0, 2, (0, 2), (1, 3)), Piece(2, 5, (2, 2), (3, 3))), 3, ["0 2 0 2 1 3", "2 3 2 2 3 3"])
        # Two cross without room: points that meet.
        self.check_ground(river(Piece(0, 4, (0, 4), (0, 4)), Piece(0, 4, (4, 0), (4, 0))), 4, ["0 4 0 4 0 4", "0 4 4 0 4 0"])
        self.check_ground(road(Piece(0, 4, (0, 2), (0, 4)), Piece(0, 4, (4, 2), (4, 4))), 4, ["0 4 0 0 0 2", "0 8/3 0 8/3 4 8/3"])
        # Of one begin and one place by their paces.
        self.check_ground(river(Piece(0, 2, (1, 0), (1, 0)), Piece(0, 2, (1, 2), (1, 2)), Piece(0, 2, (1, 1), (1, 1))), 2,
                          ["0 2 1 0 1 0", "0 2 1 1 1 1", "0 2 1 2 1 2"])
        self.assertEqual(cuts_of(river(Piece(0, 4, (-1, 9), (-1, 9))), 9), (0, (2, 5), 2, 4, 9))

    def test_locks(self):
        bodies = [Body(Piece(0, 5, (0, 0), (1, 1))), Body(Piece(0, 5, (1, 1), (2, 2)), 0), Body(Piece(0, 5, (3, 3), (4, 4)), 1)]
        for keys, of_river, of_road in (((), ["0 5 0 0 2 2", "0 5 3 3 4 4"], ["0 5 2 2 3 3"]), ((0,), ["0 5 0 0 1 1", "0 5 3 3 4 4"], ["0 5 1 1 3 3"]),
                                        ((1,), ["0 5 0 0 2 2"], ["0 5 2 2 4 4"]), ((0, 1), ["0 5 0 0 1 1"], ["0 5 1 1 4 4"])):
            self.check_ground(Lane("river", 4, bodies), 5, of_river, keys)
            self.check_ground(Lane("road", 4, bodies), 5, of_road, keys)

    def test_without_bodies(self):
        for wide in (1, (1, 3), 10 ** 50):
            self.check_ground(Lane("river", wide), 5, [])
            self.assertEqual([piece.right for piece in ground_of(Lane("road", wide), (7, 3))], [(wide, wide)])
            self.assertEqual(cuts_of(Lane("road", wide), (7, 3)), (0, (7, 3)))

    def test_free_is_what_is_beside(self):
        source = random.Random(603)
        for _ in range(60):
            lane = drawn_lane(source)
            cuts = cuts_by_words(lane, 5)
            for moment in (*cuts, *[(one + other) / 2 for one, other in zip(cuts, cuts[1:])]):
                found = [at_moment(piece, number(moment)) for piece in ground_of(lane, 5)]
                found = sorted(tuple(frac(at) for at in pair) for pair in found if pair is not None)
                wanted = free_by_words(lane, 5, (), moment)
                self.assertTrue(all(any(low <= pair[0] and pair[1] <= high for low, high in wanted) for pair in found))
                self.assertTrue(all(any(pair[0] == low for pair in found) and any(pair[1] == high for pair in found) for low, high in wanted))


if __name__ == "__main__":
    unittest.main()
