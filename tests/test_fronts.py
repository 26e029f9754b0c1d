import random
import unittest
from fractions import Fraction

from helper import NO_NUMBERS, ODDITIES, LaneCase
from lanecross.errors import BadFront, BadNumber, BadPiece, Misfit
from lanecross.fronts import (covers, front_at, front_text, full_front, is_behind, is_front, least_of, lowest, spot_front,
                              spread, through)
from lanecross.pieces import Piece
from reference import frac, has, moments, number, random_piece, random_row, row_at

BANK, RAFT = Piece(0, 9, (0, 0), (2, 2)), Piece(2, 8, (0, 3), (1, 4))
ROAD, POINT = Piece(2, 6, (0, 8), (1, 9)), Piece(0, 3, (1, 0), [1, 0])
START = spot_front(BANK, 0, 1)
NO_ROWS = tuple(value for value in ODDITIES if not isinstance(value, (list, tuple)) or value) + (
    [[]], [()], ((0, 0),), [(0, 0)], [[0, 0]], [[(0, 0), (0, 1)]], [[(1, 0), (0, 1)]], [[(0, 0), (1, 1), (2, 2)]],
    [[(0, 0), (1, 0), (2, 0)]], [[(0, 0)], [(0, 1)]], [[(1, 0)], [(0, 1)]], [[(0, 0), (2, 1)], [(1, 5)]], [[(0, 0), (2, 1)], [(2, 5)]],
    [[(0, 0), (2, 1)], []], [[(0, True)]], [[(0, (2, 4))]], [[(0, 0, 0)]], [[(0,)]], [[(0, "0")]], [["00"]], {0: 0}, "-", "0 1",
    [[(0, 0.5)]], [[None]], [None], [[[(0, 0)]]], [{(0, 0)}], Piece, BANK)


def as_lists(row):
    return [[[list(part) if isinstance(part, tuple) else part for part in corner] for corner in stretch] for stretch in row]


def shifted(row, at, index, moment=0, place=0):
    """The row with one corner moved."""
    rows = [[list(corner) for corner in stretch] for stretch in row]
    corner = rows[at][index]
    rows[at][index] = (number(frac(corner[0]) + place), number(frac(corner[1]) + moment))
    return rows


class IsFrontTest(LaneCase):
    def test_what_is_one(self):
        for piece, value in ((BANK, START), (BANK, ()), (BANK, []), (BANK, [[(0, 0), (2, 0)]]), (BANK, [[(0, 9)]]),
                             (BANK, [[(0, 9)], [(1, 9)], [[2, 9]]]), (POINT, [[(0, 3)]]), (POINT, [[[0, 3], [[2, 3], 1]]]),
                             (ROAD, full_front(ROAD)), (BANK, as_lists(START)), (RAFT, [[(3, 8), (4, 8)]]), (RAFT, [[(3, 8)]]), (BANK, [[(0, 9), (1, 8), (2, 9)]])):
            self.assertIs(is_front(piece, value), True, (str(piece), value))
            self.assertEqual(frozen(spread(piece, value)), frozen(value))

    def test_what_is_none(self):
        for piece, value in ((BANK, [[(0, 5)], [(2, 6)]]), (RAFT, START), (BANK, [[(0, 10)]]), (BANK, [[(1, 0)]]), (BANK, [[(1, 8)]]),
                             (BANK, [[(0, 0), (1, 2)]]), (BANK, [[(0, 9)], [(1, 8), (2, 9)]]), (BANK, [[(0, 0), (3, 0)]]),
                             (BANK, [[(0, 0), (2, 3)]]), (BANK, [[(0, -1), (2, 0)]]), (POINT, [[(0, 3), ((1, 2), (3, 2)), (1, 0)]]),
                             (POINT, [[(1, 0)]]), (RAFT, [[(3, 7)]]), (RAFT, [[(1, 2)]]), (BANK, [[(0, 9)], [(0, 9)]]),
                             (BANK, [[(0, 8), ((1, 2), 9)], [(1, 9), (2, 8)]])):
            self.assertIs(is_front(piece, value), False, (str(piece), value))
        for value in NO_ROWS:
            self.assertIs(is_front(BANK, value), False)
        self.assertIs(is_front(value=None, piece=BANK), False)

    def test_bent_fronts(self):
        source = random.Random(51)
        step = Fraction(1, 97)
        for _ in range(60):
            piece = random_piece(source)
            front = spread(piece, random_row(source, piece))
            self.assertIs(is_front(piece, front), True)
            for at, stretch in enumerate(front):
                rest = front[:at] + front[at + 1:]
                self.check_by_meaning(piece, rest)
                self.assertFalse(is_front(piece, front[:at + 1] + front[at:]))
                self.check_by_meaning(piece, front[:at] + (stretch[:-1],) * (len(stretch) > 1) + front[at + 1:])
                self.check_by_meaning(piece, front[:at] + (stretch[1:],) * (len(stretch) > 1) + front[at + 1:])
                for index in range(len(stretch)):
                    for moment, place in ((step, 0), (-step, 0), (0, step), (0, -step), (0, 50), (step, step)):
                        self.check_by_meaning(piece, shifted(front, at, index, moment, place))
                    if 0 < index < len(stretch) - 1:
                        self.check_by_meaning(piece, front[:at] + (stretch[:index] + stretch[index + 1:],) + front[at + 1:])
                    if index > 0:
                        middle = tuple(number((frac(one) + frac(other)) / 2) for one, other in zip(stretch[index - 1], stretch[index]))
                        self.assertFalse(is_front(piece, front[:at] + (stretch[:index] + (middle,) + stretch[index:],) + front[at + 1:]))

    def check_by_meaning(self, piece, value):
        """A row is a front exactly if all its corners are spots, and it spreads to no other one."""
        told = is_front(piece, value)
        try:
            wanted = frozen(spread(piece, value)) == frozen(value)
        except (BadFront, Misfit):
            wanted = False
        self.assertIs(told, wanted)
        if told:
            self.check_nobody_leaves(piece, value)

    def check_nobody_leaves(self, piece, row):
        """From corners of a front one comes just to spots behind it."""
        for stretch in row:
            for place, moment in stretch:
                place, moment = frac(place), frac(moment)
                self.assertTrue(has(piece, moment, place))
                for way in range(-12, 13):
                    other = place + Fraction(way, 3)
                    own = moments(piece, other)
                    if own is not None and max(own[0], moment + abs(other - place)) <= own[1]:
                        found = row_at(row, other)
                        self.assertIsNotNone(found)
                        self.assertLessEqual(found, max(own[0], moment + abs(other - place)))

    def test_no_pieces(self):
        for value in (*ODDITIES, str(BANK), (0, 9, (0, 0), (2, 2))):
            for told in (lambda: is_front(value, ()), lambda: full_front(value), lambda: spot_front(value, None, None),
                         lambda: spread(value, None), lambda: least_of(value, None, None)):
                self.check_part(BadPiece, "piece", told)


def frozen(row):
    return tuple(tuple(tuple(tuple(part) if isinstance(part, list) else part for part in corner) for corner in stretch) for stretch in row)


class SpreadTest(LaneCase):
    def test_full_fronts(self):
        for piece, told in ((BANK, (((0, 0), (2, 0)),)), (RAFT, (((0, 2), (1, 2), (4, 8)),)), (POINT, (((0, 3), (1, 0)),)),
                            (Piece(1, 2, (3, 3), (3, 3)), (((3, 1),),)), (Piece(0, 2, (1, 0), (1, 3)), (((0, 2), (1, 0), (3, 2)),))):
            self.assertEqual(full_front(piece), told)
            self.assertEqual(full_front(piece=piece), told)

    def test_spots(self):
        self.assertEqual(START, (((0, 1), (1, 0), (2, 1)),))
        self.assertEqual(spot_front(BANK, 9, 1), (((1, 9),),))
        self.assertEqual(spot_front(BANK, (17, 2), 1), ((((1, 2), 9), (1, (17, 2)), ((3, 2), 9)),))
        self.assertEqual(spot_front(place=[1, 2], moment=[1, 2], piece=BANK), (((0, 1), ((1, 2), (1, 2)), (2, 2)),))
        # a point of pace 2 leaves nobody anywhere but where they are; one of pace 1 takes them along
        swift, even, slow = (Piece(0, 4, (0, far), (0, far)) for far in (8, 4, 2))
        self.assertEqual(spot_front(swift, 1, 2), (((2, 1),),))
        self.assertEqual(spot_front(even, 1, 1), (((1, 1), (4, 4)),))
        self.assertEqual(spot_front(slow, 1, (1, 2)), ((((1, 2), 1), (2, 4)),))
        standing = Piece(0, 4, (3, 3), (3, 3))
        self.assertEqual(spot_front(standing, 2, 3), (((3, 2),),))

    def test_rows(self):
        for row, told in (((), ()), ([[(0, 5)], [(2, 6)]], (((0, 5), ((3, 2), (13, 2)), (2, 6)),)),
                          ([[(0, 9)], [(2, 9)]], (((0, 9),), ((2, 9),))),
                          ([[(0, 8)], [(2, 8)]], (((0, 8), (1, 9), (2, 8)),)),
                          ([[(0, (17, 2))], [(2, 8)]], (((0, (17, 2)), ((1, 2), 9)), ((1, 9), (2, 8)))),
                          ([[(0, 0), (1, 5), (2, 0)]], (((0, 0), (1, 1), (2, 0)),)),
                          ([[(0, 4), (2, 3)]], (((0, 4), (2, 3)),)),
                          ([[(0, 4), (1, 0), (2, 4)]], (((0, 1), (1, 0), (2, 1)),)),
                          ([[(0, 1), (2, 8)]], (((0, 1), (2, 3)),))):
            self.assertEqual(spread(BANK, row), told)
            self.assertEqual(spread(BANK, as_lists(row)), told)
            self.assertEqual(spread(row=row, piece=BANK), told)

    def test_gaps_that_the_ground_makes(self):
        for row, told in (([[(3, (7, 2))]], (((3, (7, 2)),),)),
                          ([[(1, 2)], [(9, 6)]], ((((2, 3), (7, 3)), (1, 2), (2, 3)), ((9, 6),))),
                          ([[(2, (5, 2))], [(9, 6)]], ((((5, 3), (17, 6)), (2, (5, 2)), (3, (7, 2))), ((9, 6),)))):
            self.assertEqual(spread(ROAD, row), told)

    def test_wrong_values(self):
        for value in NO_ROWS:
            self.check_part(BadFront, "row", spread, BANK, value)
        for row in ([[(0, 10)]], [[(3, 5)]], [[(0, 0), (3, 5)]], [[(0, 0)], [(2, -1)]]):
            self.check_part(Misfit, "row", spread, BANK, row)
        for value in NO_NUMBERS:
            self.check_part(BadNumber, "moment", spot_front, BANK, value, 1)
            self.check_part(BadNumber, "moment", spot_front, BANK, value, None)
            self.check_part(BadNumber, "place", spot_front, BANK, 99, value)
        for moment, place in ((10, 1), (-1, 1), (1, 3), (1, (-1, 9)), ((-1, 9), 0)):
            self.check_part(Misfit, "place", spot_front, BANK, moment, place)

    def test_nothing_is_changed(self):
        row = as_lists([[(0, 5)], [(2, 6)]])
        told = spread(BANK, row)
        row[0][0][1] = 7
        row.append([])
        self.assertEqual(told, (((0, 5), ((3, 2), (13, 2)), (2, 6)),))


class LeastTest(LaneCase):
    def test_with_itself_and_others(self):
        source = random.Random(52)
        for _ in range(50):
            piece = random_piece(source)
            fronts = [spread(piece, random_row(source, piece)) for _ in range(2)]
            for one in fronts:
                self.assertEqual(least_of(piece, one, one), one)
                self.assertEqual(least_of(piece, one, ()), one)
                self.assertEqual(least_of(piece, [], as_lists(one)), one)
                self.assertEqual(least_of(piece, one, full_front(piece)), full_front(piece))
                self.assertEqual(least_of(piece, full_front(piece), one), full_front(piece))
            self.assertEqual(least_of(piece, fronts[0], fronts[1]), least_of(piece, fronts[1], fronts[0]))
        self.assertEqual(least_of(BANK, (), []), ())

    def test_fronts(self):
        self.assertEqual(least_of(BANK, spot_front(BANK, 1, 0), spot_front(BANK, 1, 2)), (((0, 1), (1, 2), (2, 1)),))
        self.assertEqual(least_of(BANK, [[(0, 9)]], other=[[(2, 9)]]), (((0, 9),), ((2, 9),)))
        self.assertEqual(least_of(one=[[(0, 9), (1, 8), (2, 9)]], other=[[(0, 8), (1, 9)]], piece=BANK), (((0, 8), ((1, 2), (17, 2)), (1, 8), (2, 9)),))

    def test_wrong_values(self):
        for value in (*NO_ROWS, [[(1, 0)]], [[(0, 10)]]):
            self.check_part(BadFront, "one", least_of, BANK, value, START)
            self.check_part(BadFront, "other", least_of, BANK, START, value)
            self.check_part(BadFront, "one", least_of, BANK, value, value)


class AskingTest(LaneCase):
    ROW = (((0, 5), (2, (7, 2)), (3, 3)), ((4, 9),), ((6, 3), (7, 8)))

    def test_moments_of_places(self):
        for place, moment in ((0, 5), (1, (17, 4)), (2, (7, 2)), ((5, 2), (13, 4)), (3, 3), ((7, 2), None), (4, 9), ((13, 2), (11, 2)),
                              (7, 8), (8, None), (-1, None), ((31, 10), None), (5, None), ((-1, 1000), None)):
            self.assertEqual(front_at(self.ROW, place), moment)
            self.assertEqual(front_at(place=place, front=as_lists(self.ROW)), moment)
            for more in (Fraction(0), Fraction(1, 99), Fraction(-1, 99), Fraction(100), Fraction(-100)):
                spot = number(more if moment is None else frac(moment) + more)
                self.assertIs(is_behind(self.ROW, spot, place), moment is not None and more >= 0)
        self.assertIs(is_behind(place=1, moment=9, front=self.ROW), True)
        self.assertEqual((front_at((), 1), is_behind([], 1, 1)), (None, False))

    def test_lowest(self):
        for row, told in ((self.ROW, (3, 3)), ((), None), ([], None), ([[(4, 9)]], (4, 9)), ([[(0, 1), (1, 0), (2, 0)]], (1, 0)),
                          ([[(0, [1, 2])], [[[3, 2], [1, 3]]]], ((3, 2), (1, 3))), ([[(0, 0)], [(1, -1)]], (1, -1))):
            self.assertEqual(lowest(row), told)
            self.assertEqual(lowest(front=row), told)

    def test_covers(self):
        row = self.ROW
        for one, other, told in ((row, row, True), (row, (), True), ((), row, False), ((), (), True), (row, row[:1], True), (row[:1], row, False),
                                 (row, [[(0, 5), (3, 3)]], True), (row, [[(0, 5), (3, 2)]], False), ([[(0, 5), (3, 3)]], [[(0, 5), (3, 4)]], True),
                                 ([[(0, 0), (9, 0)]], row, True), ([[(0, 4), (9, 4)]], row, False), (row, [[(3, 9), (4, 9)]], False),
                                 ([[(0, 0), (1, 2), (2, 0)]], [[(0, 1), (2, 1)]], False), ([[(0, 0), (1, 1), (2, 0)]], [[(0, 1), (2, 1)]], True),
                                 ([[(0, 1), (2, 1)]], [[(0, 2), (1, 0), (2, 2)]], False), (row, [[(4, 9)], [(7, 8)]], True), (row, [[(4, (17, 2))]], False),
                                 ([[(0, 0), (1, 0)]], [[(1, 0), (2, 0)]], False), ([[(1, 0), (2, 0)]], [[(0, 0), (1, 0)]], False)):
            self.assertIs(covers(one, other), told, (one, other))
            self.assertIs(covers(other=as_lists(other), one=as_lists(one)), told)

    def test_wrong_values(self):
        for value in NO_ROWS:
            self.check_part(BadFront, "front", front_at, value, None)
            self.check_part(BadFront, "front", lowest, value)
            self.check_part(BadFront, "front", is_behind, value, None, None)
            self.check_part(BadFront, "one", covers, value, value)
            self.check_part(BadFront, "other", covers, START, value)
            self.check_part(BadFront, "front", front_text, value)
        for value in NO_NUMBERS:
            self.check_part(BadNumber, "place", front_at, START, value)
            self.check_part(BadNumber, "moment", is_behind, START, value, value)
            self.check_part(BadNumber, "place", is_behind, START, 1, value)


class ThroughTest(LaneCase):
    def test_order_of_errors(self):
        bad = [[(1, 0)]]
        for value in (*ODDITIES, START):
            self.check_part(BadPiece, "one", through, bad, value, value, value)
            self.check_part(BadFront, "front", through, bad, BANK, value, value)
            self.check_part(BadPiece, "other", through, START, BANK, value, value)
            if value is not None:
                self.check_part(BadPiece, "window", through, START, BANK, RAFT, value)
        for value in (*NO_ROWS, bad, [[(0, 10)]]):
            self.check_part(BadFront, "front", through, value, BANK, RAFT, None)
        self.check_part(BadFront, "front", through, full_front(RAFT), BANK, RAFT, None)

    def test_by_name(self):
        self.assertEqual(through(window=None, other=RAFT, one=BANK, front=as_lists(START)), (((0, 2), (1, 2), (4, 8)),))

    def test_from_nothing_and_from_all(self):
        self.assertEqual(through((), BANK, RAFT, None), ())
        self.assertEqual(through(full_front(BANK), BANK, BANK, None), full_front(BANK))
        self.assertEqual(through(START, BANK, BANK, None), START)

    def test_narrow_windows(self):
        point = Piece(3, 4, (1, 3), (1, 3))
        self.assertEqual(through(START, BANK, RAFT, point), ((((2, 3), (10, 3)), (1, 3), ((5, 3), (10, 3)), (4, 8)),))
        wall = Piece(4, 6, (1, 1), (1, 1))
        self.assertEqual(through(START, BANK, RAFT, wall), (((1, 4), (3, 6), (4, 8)),))
        # a window that one of the pieces touches at one moment, at one place
        self.assertEqual(through(START, BANK, RAFT, Piece(0, 2, (1, 1), (9, 9))), ((((1, 3), (8, 3)), (1, 2), (4, 8)),))
        self.assertEqual(through(START, BANK, RAFT, Piece(0, (199, 100), (0, 0), (9, 9))), ())

    def test_pieces_that_touch(self):
        left, right = Piece(0, 4, (0, 0), (2, 2)), Piece(0, 4, (2, 2), (5, 5))
        self.assertEqual(through([[(0, 0), (2, 0)]], left, right, None), (((2, 0), (5, 3)),))
        self.assertEqual(through(spot_front(left, 3, 0), left, right, None), ())
        self.assertEqual(through(spot_front(left, 2, 0), left, right, None), (((2, 4),),))
        later = Piece(4, 6, (1, 1), (3, 3))
        self.assertEqual(through(full_front(left), left, later, None), (((1, 4), (2, 4), (3, 5)),))
        corner = Piece(4, 6, (2, 2), (3, 3))
        self.assertEqual(through(full_front(left), left, corner, None), (((2, 4), (3, 5)),))
        self.assertEqual(through(full_front(left), left, Piece(4, 6, (3, 3), (4, 4)), None), ())
        self.assertEqual(through(full_front(left), left, Piece(5, 6, (0, 0), (2, 2)), None), ())

    def test_points(self):
        ground = Piece(0, 10, (0, 0), (10, 10))
        front = spot_front(ground, 0, 0)
        for edge, told in (((5, 5), (((5, 5),),)), ((0, 10), (((0, 0), (10, 10)),)), ((5, 10), (((10, 10),),)),
                           ((-10, 10), (((0, 5), (10, 10)),)), ((0, 20), (((0, 0),),)), ((6, 12), ()), ((10, 0), (((0, 10), (5, 5)),)),
                           ((20, 0), (((0, 10), ((20, 3), (20, 3))),)), ((-1, 9), (((0, 1), (9, 10)),)), ((0, 5), (((0, 0), (5, 10)),))):
            self.assertEqual(through(front, ground, Piece(0, 10, edge, edge), None), told)

    def test_row_of_links(self):
        front = START
        one = BANK
        for other in (RAFT, Piece(0, 9, (3, 3), (6, 6)), Piece(5, 12, (6, 0), (7, 1)), BANK):
            front = through(front, one, other, None)
            self.assertTrue(is_front(other, front))
            one = other
        self.assertEqual(front, ())
        self.assertEqual(through(through(START, BANK, RAFT, None), RAFT, Piece(0, 9, (3, 3), (6, 6)), None), (((3, 6), (6, 9)),))


if __name__ == "__main__":
    unittest.main()
