"""Answers come in a short time. The bounds are wide: they catch what grows too fast, not a slow machine."""

import random
import time
import unittest
from fractions import Fraction

from lanecross.fronts import (covers, front_at, front_read, front_text, is_behind, is_front, least_of, lowest, spread, through)
from lanecross.numbers import distance, greatest, least, minus, number_text, over, plus, times
from lanecross.pieces import Piece
from lanecross.turned import backward, mirrored, moved, stretched, with_links, with_piece, without
from lanecross.worlds import World, links_from
from reference import frac, number


def one_of(source, low, high):
    below = source.randint(100, 999)
    return number(Fraction(source.randint(low * below, high * below), below))


def great(source):
    return number(Fraction(source.randint(-10 ** 100, 10 ** 100), source.randint(1, 10 ** 100)))


class TimesTest(unittest.TestCase):
    def check_short(self, told, seconds=2):
        begun = time.perf_counter()
        answer = told()
        self.assertLess(time.perf_counter() - begun, seconds)
        return answer

    def sixty(self, source):
        piece = Piece(0, 900, (0, one_of(source, 0, 50)), (one_of(source, 800, 900), one_of(source, 700, 800)))
        places = sorted(source.sample(range(60 * 997, 690 * 997), 60))
        return piece, [number(Fraction(place, 997)) for place in places]

    def test_fronts_of_sixty_corners(self):
        source = random.Random(81)
        piece, places = self.sixty(source)
        other = Piece(one_of(source, 300, 320), 800, (one_of(source, 50, 90), 70), (one_of(source, 600, 700), 650))
        rows = ([[(place, one_of(source, 300, 400)) for place in places]], [[(place, one_of(source, 300, 310))] for place in places],
                [[(place, one_of(source, 300, 900)) for place in places[at:at + 6]] for at in range(0, 60, 6)])
        fronts = [self.check_short(lambda: spread(piece, row)) for row in rows]
        for one in fronts:
            self.assertTrue(self.check_short(lambda: is_front(piece, one)))
            for two in fronts:
                self.check_short(lambda: least_of(piece, one, two))
                self.check_short(lambda: covers(one, two))
            for window in (None, other):
                self.check_short(lambda: through(one, piece, other, window))
            self.check_short(lambda: (front_at(one, places[30]), lowest(one), is_behind(one, 400, places[7])))
            self.assertEqual(self.check_short(lambda: front_read(front_text(one))), one)

    def test_many_links(self):
        source = random.Random(82)
        piece, places = self.sixty(source)
        front = spread(piece, [[(place, one_of(source, 300, 400)) for place in places]])

        def rows_of_links():
            one, told = piece, front
            for _ in range(100):
                other = Piece(0, 900, (0, one_of(source, 0, 50)), (one_of(source, 800, 900), one_of(source, 700, 800)))
                told = through(told, one, other, None)
                one = other
            return told
        self.assertEqual(len(self.check_short(rows_of_links, 10)), 1)

    def test_great_numbers(self):
        source = random.Random(83)
        values = [great(source) for _ in range(60)]

        def reckoned():
            for one in values:
                for other in values:
                    plus(one, other), minus(one, other), times(one, other), over(one, other), distance(one, other)
            return [number_text(value) for value in values] + [least(values), greatest(values)]
        self.check_short(reckoned)
        moments = sorted(values[:2], key=frac)
        places = sorted(values[2:6], key=frac)
        piece = Piece(moments[0], moments[1], places[:2], places[2:])
        self.assertTrue(self.check_short(lambda: is_front(piece, spread(piece, [[(places[1], moments[1])]]))))

    def test_greatest_worlds(self):
        pieces = [Piece(0, 900, (at, at + 1), (at + 5, at + 9)) for at in range(60)]
        links = [(at % 60, (at * 7 + 1 + at // 60) % 60, Piece(0, at + 1, (0, 0), (at, at))) for at in range(600)]
        links = [link for link in links if link[0] != link[1]]
        world = self.check_short(lambda: World(pieces, links, (0, 0, 0), list(range(60))))
        same = [(0, 1, Piece(0, at + 1, (0, 0), (at, at))) for at in range(600)]
        self.assertEqual(len(self.check_short(lambda: World(pieces, same, (0, 0, 0), [])).links), 600)
        self.assertTrue(self.check_short(lambda: World.read(str(world))) == world)
        for told in (lambda: mirrored(world), lambda: moved(world, (1, 7), (-1, 9)), lambda: stretched(world, (2, 7)), lambda: without(world, 3),
                     lambda: backward(world, (0, 0, 0), [1]), lambda: with_links(without(world, 3), [(3, 4, None)]), lambda: links_from(world, 3)):
            self.check_short(told)
        with_piece(World(pieces[:59], [], (0, 0, 0), []), pieces[0], [(59, 0, None)])


if __name__ == "__main__":
    unittest.main()
