import random
import unittest
from fractions import Fraction
from math import ceil, floor

from drawn import as_lists, drawn_play, drawn_world, place_at, station_of, times_of
from helper import NO_NUMBERS, ODDITIES, LaneCase
from lanecross.errors import BadFront, BadNumber, BadPiece, BadPlay, BadWorld, Misfit
from lanecross.fronts import full_front, spot_front, spread
from lanecross.pictures import chart, columns_of, scene
from lanecross.pieces import Piece
from lanecross.plays import where_at
from lanecross.tables import table
from lanecross.worlds import World
from reference import frac, has, number, random_piece, random_row, row_at

BANK, BOAT, FAR = Piece(0, 10, (0, 0), (3, 3)), Piece(0, 10, (1, 6), (2, 7)), Piece(0, 12, (6, 6), (8, 8))
WORLD = World([BANK, BOAT, FAR], [(0, 1, None), (1, 2, None), (1, 0, None)], (0, 0, 0), [2])
PLAY = ((0, 0, 0), (2, 2, 1), (4, 4, 1), (8, 6, 2), (9, (13, 2), 2))


def columns_by_words(pieces):
    places = [frac(place) for piece in pieces for place in (*piece.left, *piece.right)]
    return floor(min(places)), ceil(max(places))


def scene_by_words(world, moment, play=None):
    """Each integer place is looked at by itself."""
    first, last = columns_by_words(world.pieces)
    rows = [["=" if has(piece, moment, Fraction(place)) else "." for place in range(first, last + 1)] for piece in world.pieces]
    if play is not None:
        place, _ = place_at(play, moment)
        piece = where_at(world, play, number(moment))[2]
        rows[piece][max(column for column in range(first, last + 1) if column <= place) - first] = "@"
    return tuple("".join(row) for row in rows)


def chart_by_words(piece, front):
    first, last = columns_by_words([piece])
    rows = []
    for moment in range(ceil(frac(piece.begin)), floor(frac(piece.end)) + 1):
        row = ""
        for place in range(first, last + 1):
            told = row_at(front, Fraction(place))
            if not has(piece, Fraction(moment), Fraction(place)):
                row += " "
            else:
                row += "#" if told is not None and told <= moment else "."
        rows.append(row)
    return tuple(rows)


def moments_of(world):
    """Moments at begins and ends, at integers, between them, ahead and behind."""
    found = sorted({frac(moment) for piece in world.pieces for moment in (piece.begin, piece.end)})
    found += [(one + other) / 2 for one, other in zip(found, found[1:])]
    return [*found, found[0] - 1, max(found) + Fraction(1, 3), *[Fraction(moment) for moment in range(floor(found[0]), floor(found[0]) + 5)]]


class ColumnsTest(LaneCase):
    def test_columns(self):
        source = random.Random(1101)
        below = 0
        for _ in range(150):
            world = drawn_world(source, 4)
            self.assertEqual(columns_of(world), columns_by_words(world.pieces))
            below += columns_of(world)[0] < 0
        self.assertGreater(below, 50)
        for edges, columns in ((((0, 0), (0, 0)), (0, 0)), ((((1, 2), (1, 2)), ((1, 2), (1, 2))), (0, 1)), (((3, -5), (4, (-9, 2))), (-5, 4)), (((0, (-1, 3)), (7, (22, 3))), (-1, 8)),
                               (((10 ** 30, 10 ** 30), (10 ** 30, 10 ** 30)), (10 ** 30, 10 ** 30))):
            piece = Piece(0, 1, *edges)
            self.assertEqual(columns_of(world=World([piece], [], (0, edges[0][0], 0), [])), columns)


class SceneTest(LaneCase):
    def test_scenes(self):
        source = random.Random(1111)
        signs = 0
        for _ in range(120):
            world = drawn_world(source, 4)
            for moment in moments_of(world):
                told = scene(world, number(moment))
                self.assertEqual(told, scene_by_words(world, moment))
                self.assertEqual(scene(world, as_lists(number(moment)), None), told)
                self.assertIsInstance(told, tuple)
                signs += "=" in "".join(told)
        self.assertGreater(signs, 500)

    def test_scenes_of_plays(self):
        source = random.Random(1112)
        seen = nowhere = edges = 0
        for _ in range(120):
            world = drawn_world(source, 4)
            play = drawn_play(source, world, source.choice((world.start, station_of(source, world))))
            for moment in times_of(play):
                if place_at(play, moment) is None:
                    self.check_part(Misfit, "moment", scene, world, number(moment), play)
                    nowhere += 1
                    continue
                told = scene(world, number(moment), play)
                self.assertEqual(told, scene_by_words(world, moment, play))
                self.assertEqual(scene(world, number(moment), as_lists(play)), told)
                self.assertEqual(sum(row.count("@") for row in told), 1)
                seen += 1
                edges += told[where_at(world, play, number(moment))[2]].replace("@", "=") != scene(world, number(moment))[where_at(world, play, number(moment))[2]]
        self.assertTrue(seen > 300 and nowhere > 200 and edges > 20, (seen, nowhere, edges))

    def test_by_hand(self):
        self.assertEqual(scene(play=None, moment=0, world=WORLD), ("====.....", ".==......", "......==="))
        self.assertEqual(scene(WORLD, -1), (".........",) * 3)
        self.assertEqual(scene(WORLD, (1, 3)), ("====.....", "..=......", "......==="))
        point = World([Piece(0, 2, ((1, 2), (5, 2)), ((1, 2), (5, 2))), Piece(0, 1, (-1, -1), (-1, -1))], [], (0, (1, 2), 0), [])
        self.assertEqual([scene(point, moment) for moment in (0, (1, 2), 1, (3, 2), 2)], [(".....", "=...."), ("..=..", "=...."), (".....", "=...."), ("...=.", "....."), (".....", ".....")])
        self.assertEqual(scene(point, 0, [(0, (1, 2), 0)]), (".@...", "=...."))
        self.assertEqual(scene(point, 0, [(0, -1, 1)]), (".....", "@...."))
        self.assertEqual(scene(WORLD, 2, PLAY), ("====.....", "..@=.....", "......==="))
        self.assertEqual(scene(WORLD, 9, PLAY)[2], "......@==")
        narrow = World([Piece(0, 1, ((1, 3), (1, 3)), ((2, 3), (2, 3)))], [], (0, (1, 3), 0), [])
        self.assertEqual((columns_of(narrow), scene(narrow, 0), scene(narrow, 0, [(0, (2, 3), 0)])), ((0, 1), ("..",), ("@.",)))

    def test_refused(self):
        for value in (*ODDITIES, BANK, str(WORLD), World):
            self.check_part(BadWorld, "world", columns_of, value)
            self.check_part(BadWorld, "world", scene, value, None, 7)
        for value in NO_NUMBERS:
            if value not in ((1, 2), [1, 2]):
                self.check_part(BadNumber, "moment", scene, WORLD, value, 7)
        for value in (*ODDITIES, [(0, 0, 1)], [(0, 0, 0), (1, 1, 1)], [*PLAY, None], PLAY[0], [(0, 0, False)]):
            if value is not None:
                self.check_part(BadPlay, "play", scene, WORLD, 99, value)
        for moment in (-1, 10, (91, 10), (-1, 10 ** 30)):
            self.check_part(Misfit, "moment", scene, WORLD, moment, PLAY)


class ChartTest(LaneCase):
    def check_chart(self, piece, front):
        wanted = chart_by_words(piece, front)
        told = chart(piece, front)
        self.assertIsInstance(told, tuple)
        self.assertEqual(told, wanted)
        self.assertEqual(chart(piece, as_lists(front)), wanted)
        return "".join(told)

    def test_drawn_fronts(self):
        source = random.Random(1121)
        signs = {" ": 0, "#": 0, ".": 0}
        for _ in range(250):
            piece = random_piece(source)
            if source.randint(0, 1):
                shift, by = Fraction(source.randint(1, 6), 7), Fraction(source.randint(1, 4), source.choice((1, 2, 3)))
                piece = Piece(number(frac(piece.begin) * by + shift), number(frac(piece.end) * by + shift),
                              [number(frac(place) * by) for place in piece.left], [number(frac(place) * by) for place in piece.right])
            spot = (piece.begin, piece.left[0])
            for front in ((), full_front(piece), spot_front(piece, *spot), spread(piece, random_row(source, piece)), spread(piece, random_row(source, piece, 1))):
                told = self.check_chart(piece, front)
                for sign in signs:
                    signs[sign] += told.count(sign)
        self.assertGreater(min(signs.values()), 1000, signs)

    def test_tables(self):
        source = random.Random(1122)
        for _ in range(60):
            world = drawn_world(source, 4)
            for piece, front in zip(world.pieces, table(world)):
                self.check_chart(piece, front)

    def test_by_hand(self):
        none = Piece((1, 3), (2, 3), (0, 0), (3, 3))
        self.assertEqual((chart(none, ()), chart(none, full_front(none))), ((), ()))
        one = Piece((1, 3), (4, 3), (0, 0), (1, 1))
        self.assertEqual((chart(front=(), piece=one), chart(one, full_front(one)), chart(one, spot_front(one, 1, 0))), (("..",), ("##",), ("#.",)))
        stand = Piece(0, 2, ((1, 2), (1, 2)), ((1, 2), (1, 2)))
        self.assertEqual(chart(stand, full_front(stand)), ("  ", "  ", "  "))
        swift = Piece(0, 2, (0, 4), (1, 5))
        self.assertEqual(chart(swift, full_front(swift)), ("##    ", "  ##  ", "    ##"))
        self.assertEqual(chart(swift, spot_front(swift, 0, 1)), (".#    ", "  #.  ", "    .."))
        self.assertEqual(chart(Piece(-2, -1, (-2, -2), (-1, -1)), ()), ("..", ".."))

    def test_refused(self):
        start = spot_front(BANK, 0, 1)
        for value in (*ODDITIES, str(BANK), Piece, WORLD):
            self.check_part(BadPiece, "piece", chart, value, None)
        for value in (*ODDITIES, start[0], [[]], [[(0, 0), (3, 4)]], [[(1, 0)]], full_front(BOAT), [[(0, 0, 0)]], [start], [[(True, 0), (3, 2)]]):
            if value not in ((), []):
                self.check_part(BadFront, "front", chart, BANK, value)

    def test_what_is_passed_stays(self):
        play, front = as_lists(PLAY), as_lists(full_front(BANK))
        scene(WORLD, 2, play), chart(BANK, front)
        self.assertEqual((play, front), (as_lists(PLAY), as_lists(full_front(BANK))))


if __name__ == "__main__":
    unittest.main()
