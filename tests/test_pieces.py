import random
import unittest
from fractions import Fraction

from helper import NO_NUMBERS, ODDITIES, LaneCase
from lanecross.errors import BadNumber, BadPiece, Misfit
from lanecross.pieces import Piece, at_moment, first_at, last_at
from reference import edge_at, frac, has, moments, number, random_piece

ROAD = Piece(2, 6, (0, 8), (1, 9))
PAIRS = ((4, 2), (3, 1), (1, -2), (0, 5), (1, 0), (-4, 6), (10 ** 60, 10), ((1, 2), 3), [[1, 2], 2], [2, [1, 2]])
NO_PAIRS = tuple(value for value in NO_NUMBERS if value not in PAIRS) + (
    3, -1, "12", ((1, 2), (2, 4)), ((3, 1), 1), (1, True), [True, 1], [(1, 2), (1, 3), (1, 4)])
KINDS = (
    ROAD, Piece(0, 3, (1, 0), (1, 0)), Piece(0, 3, (1, 1), (1, 1)), Piece(0, 4, (0, 0), (3, 3)), Piece(0, 1, (0, 100), (0, 100)),
    Piece(0, 4, (2, 0), (2, 5)), Piece(0, 4, (0, 2), (5, 2)), Piece(-3, -1, (-5, -3), (-4, 8)), Piece(0, 5, (0, 5), (1, 6)),
    Piece((1, 3), (7, 2), ((-1, 2), (5, 7)), (3, 3)), Piece(0, 10 ** 6, (0, 1), (0, 1)), Piece(0, 100, (5, 0), (9, (1, 99))))


class MakingTest(LaneCase):
    def test_attributes(self):
        begin, left, right = [1, 2], [[1, 3], 4], [[1, 2], [9, 2]]
        piece = Piece(begin, [7, 2], left, right)
        self.assertEqual((piece.begin, piece.end, piece.left, piece.right), ((1, 2), (7, 2), ((1, 3), 4), ((1, 2), (9, 2))))
        self.assertEqual(repr((piece.begin, piece.left)), "((1, 2), ((1, 3), 4))")
        begin[0], left[0][0] = 9, 9
        left.append(1)
        self.assertEqual((piece.begin, piece.left), ((1, 2), ((1, 3), 4)))
        self.assertEqual((begin, left, right), ([9, 2], [[9, 3], 4, 1], [[1, 2], [9, 2]]))

    def test_pairs_of_places_are_no_numbers(self):
        piece = Piece(0, 1, (1, 2), (4, 2))
        self.assertEqual((piece.left, piece.right), ((1, 2), (4, 2)))

    def test_by_name(self):
        self.assertEqual(Piece(right=(1, 9), left=(0, 8), end=6, begin=2), ROAD)

    def test_equal(self):
        self.assertTrue(ROAD == Piece(2, 6, [0, 8], [1, 9]))
        self.assertFalse(ROAD != Piece(2, 6, [0, 8], [1, 9]))
        self.assertTrue(Piece([1, 2], 6, (0, 8), (1, 9)) == Piece((1, 2), 6, (0, 8), (1, 9)))
        for other in (Piece(1, 6, (0, 8), (1, 9)), Piece(2, 7, (0, 8), (1, 9)), Piece(2, 6, (1, 8), (1, 9)),
                      Piece(2, 6, (0, 9), (1, 9)), Piece(2, 6, (0, 8), (2, 9)), Piece(2, 6, (0, 8), (1, 8)),
                      str(ROAD), (2, 6, (0, 8), (1, 9)), None, 0):
            self.assertFalse(ROAD == other)
            self.assertFalse(other == ROAD)
            self.assertTrue(ROAD != other)

    def test_methods_stand_in_the_class(self):
        for name in ("__init__", "__eq__", "__str__", "read", "has", "backward"):
            self.assertIn(name, vars(Piece))

    def test_wrong_parts(self):
        for value in NO_NUMBERS:
            self.check_part(BadNumber, "begin", Piece, value, 1, (0, 0), (1, 1))
            self.check_part(BadNumber, "end", Piece, 0, value, (0, 0), (1, 1))
            self.check_part(BadNumber, "begin", Piece, value, value, None, None)
            self.check_part(BadNumber, "left", Piece, 0, 1, (value, 0), (1, 1))
            self.check_part(BadNumber, "right", Piece, 0, 1, (0, 0), (1, value))
        for value in NO_PAIRS:
            self.check_part(BadNumber, "left", Piece, 0, 1, value, (1, 1))
            self.check_part(BadNumber, "right", Piece, 0, 1, (0, 0), value)
            self.check_part(BadNumber, "left", Piece, 5, 1, value, value)
            self.check_part(BadNumber, "right", Piece, 5, 1, (0, 0), value)

    def test_misfits(self):
        for begin, end in ((1, 1), (1, 0), ((1, 2), (1, 3)), (0, -1), (10 ** 60, 10 ** 60)):
            self.check_part(Misfit, "end", Piece, begin, end, (0, 0), (1, 1))
            self.check_part(Misfit, "end", Piece, begin, end, (5, 5), (1, 1))
        for left, right in (((0, 2), (1, 1)), ((2, 0), (1, 1)), ((2, 2), (1, 1)), (((1, 2), 0), ((1, 3), 1))):
            self.check_part(Misfit, "right", Piece, 0, 1, left, right)
        self.assertEqual(Piece(0, 1, (1, 2), (1, 2)).left, (1, 2))


class SpotsTest(LaneCase):
    def check_piece(self, piece):
        begin, end = frac(piece.begin), frac(piece.end)
        step = Fraction(1, 1009)
        times = [begin, end, (begin + end) / 2, (2 * begin + end) / 3, begin - step, begin + step, end - step, end + step,
                 begin - 1000, end + 1000]
        places = {frac(place) for edge in (piece.left, piece.right) for place in edge}
        for moment in times:
            edges = None
            if begin <= moment <= end:
                edges = (edge_at(piece, piece.left, moment), edge_at(piece, piece.right, moment))
                places.update(edges)
                edges = (number(edges[0]), number(edges[1]))
            self.assertEqual(at_moment(piece, number(moment)), edges)
        for place in sorted(places):
            for beside in (place, place - step, place + step, place - 1000, place + 1000):
                told = moments(piece, beside) or (None, None)
                self.assertEqual(first_at(piece, number(beside)), number(told[0]))
                self.assertEqual(last_at(piece, number(beside)), number(told[1]))
                for moment in times:
                    self.assertIs(piece.has(number(moment), number(beside)), has(piece, moment, beside))

    def test_kinds(self):
        for piece in KINDS:
            self.check_piece(piece)
            self.check_piece(piece.backward())

    def test_many(self):
        source = random.Random(31)
        for _ in range(150):
            self.check_piece(random_piece(source))

    def test_lists(self):
        self.assertEqual(at_moment(ROAD, [5, 2]), (1, 2))
        self.assertEqual((first_at(ROAD, [9, 2]), ROAD.has([5, 2], [3, 2])), ((15, 4), True))
        self.assertEqual(at_moment(moment=3, piece=ROAD), (2, 3))
        self.assertEqual((first_at(place=5, piece=ROAD), last_at(place=5, piece=ROAD)), (4, (9, 2)))
        self.assertIs(ROAD.has(place=3, moment=3), True)

    def test_wrong_values(self):
        for value in (*ODDITIES, (2, 6, (0, 8), (1, 9)), str(ROAD), Piece, 3):
            for told in (at_moment, first_at, last_at):
                self.check_part(BadPiece, "piece", told, value, 1)
                self.check_part(BadPiece, "piece", told, value, None)
        for value in NO_NUMBERS:
            self.check_part(BadNumber, "moment", at_moment, ROAD, value)
            self.check_part(BadNumber, "place", first_at, ROAD, value)
            self.check_part(BadNumber, "place", last_at, ROAD, value)
            self.check_part(BadNumber, "moment", ROAD.has, value, 1)
            self.check_part(BadNumber, "place", ROAD.has, 99, value)
            self.check_part(BadNumber, "moment", ROAD.has, value, value)


class BackwardTest(LaneCase):
    def test_there_and_back(self):
        source = random.Random(32)
        for piece in [*KINDS, *[random_piece(source) for _ in range(60)]]:
            turned = piece.backward()
            self.assertTrue(turned.backward() == piece)
            self.assertEqual(str(turned.backward()), str(piece))
            for place in {frac(place) for edge in (piece.left, piece.right) for place in edge}:
                own, other = moments(piece, place), moments(turned, place)
                self.assertEqual(own, (-other[1], -other[0]))

    def test_edges_change_ends_alone(self):
        self.assertEqual(str(Piece((1, 2), 3, (0, 1), (4, 5)).backward()), "-3 -1/2 1 0 5 4")


if __name__ == "__main__":
    unittest.main()
