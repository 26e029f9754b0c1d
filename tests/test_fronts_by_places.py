"""Fronts against a second way to them, place by place; and the same fronts in turned ground."""

import random
import unittest

from lanecross.fronts import covers, front_at, full_front, is_front, least_of, spread, through
from lanecross.pieces import Piece, first_at, last_at
from lanecross.rows import is_row
from reference import (Spread, Through, frac, moments, number, places_to_ask, random_piece, random_row, row_at)


def random_front(source, piece):
    if source.randint(0, 3) == 0:
        return full_front(piece)
    return spread(piece, random_row(source, piece, source.choice((1, 2, 4))))


def touching(source, piece):
    """A piece that shares an edge, an end, a corner or a part of an edge with another one."""
    kind = source.randint(0, 3)
    begin, end = piece.begin, piece.end
    if kind == 0:
        more = source.randint(0, 2)
        return Piece(begin, end, piece.right, [number(frac(place) + more) for place in piece.right])
    if kind == 1:
        low, high = frac(piece.left[1]), frac(piece.right[1])
        return Piece(end, number(frac(end) + 3), (number(low - 1), number(low)), (number(high), number(high + 1)))
    if kind == 2:
        place = frac(piece.right[1])
        return Piece(end, number(frac(end) + 2), (number(place), number(place)), (number(place + 2), number(place)))
    middle = (frac(begin) + frac(end)) / 2
    place = (frac(piece.left[0]) + frac(piece.left[1])) / 2
    return Piece(number(middle), number(frac(end) + 1), (number(place), number(place)), (number(place), number(place + 1)))


def any_other(source, piece):
    return touching(source, piece) if source.randint(0, 2) == 0 else random_piece(source)


def turned_piece(piece, moment, place):
    def turn(number_, by):
        return number(by(frac(number_)))
    edges = [[turn(value, place) for value in edge] for edge in (piece.left, piece.right)]
    if place(1) < place(0):
        edges.reverse()
    return Piece(turn(piece.begin, moment), turn(piece.end, moment), *edges)


def turned_row(row, moment, place):
    stretches = [[(number(place(frac(x))), number(moment(frac(t)))) for x, t in stretch] for stretch in row]
    if place(1) < place(0):
        stretches = [stretch[::-1] for stretch in stretches[::-1]]
    return tuple(tuple(stretch) for stretch in stretches)


TURNS = (
    (lambda t: t, lambda x: -x), (lambda t: t + frac((7, 3)), lambda x: x - frac((5, 2))), (lambda t: t * frac((2, 7)), lambda x: x * frac((2, 7))),
    (lambda t: 3 * t - 1, lambda x: 5 - 3 * x))


class ByPlacesTest(unittest.TestCase):
    def test_spread(self):
        for seed in range(120):
            source = random.Random(seed)
            piece = random_piece(source)
            row = random_row(source, piece)
            front = spread(piece, row)
            self.assertTrue(is_row(row) and is_row(front))
            wanted = Spread(piece, row)
            for place in places_to_ask([row, front], piece):
                self.assertEqual(front_at(front, number(place)), number(wanted.at(place)), (seed, place))
                own = moments(piece, place) or (None, None)
                self.assertEqual(first_at(piece, number(place)), number(own[0]))
                self.assertEqual(last_at(piece, number(place)), number(own[1]))
            self.assertEqual(spread(piece, front), front)
            self.assertIs(is_front(piece, front), True)
            self.assertIs(is_front(piece, row), row == front)
            self.assertTrue(covers(front, row))

    def test_through(self):
        some = 0
        for seed in range(220):
            source = random.Random(1000 + seed)
            one = random_piece(source)
            other = any_other(source, one)
            window = source.choice((None, None, any_other(source, one), any_other(source, other)))
            front = random_front(source, one)
            told = through(front, one, other, window)
            self.assertIs(is_front(other, told), True)
            wanted = Through(front, one, other, window)
            for place in places_to_ask([front, told], other):
                self.assertEqual(front_at(told, number(place)), number(wanted.at(place)), (seed, place))
            some += len(told) > 0
        self.assertGreater(some, 60)

    def test_least(self):
        for seed in range(120):
            source = random.Random(2000 + seed)
            piece = random_piece(source)
            one, other = random_front(source, piece), random_front(source, piece)
            told = least_of(piece, one, other)
            self.assertIs(is_front(piece, told), True)
            for place in places_to_ask([one, other, told], piece):
                both = [moment for moment in (row_at(one, place), row_at(other, place)) if moment is not None]
                self.assertEqual(front_at(told, number(place)), number(min(both)) if both else None)
            self.assertEqual(least_of(piece, other, one), told)
            self.assertTrue(covers(told, one) and covers(told, other))
            self.assertIs(covers(one, other), told == one)

    def test_earlier_fronts_let_more_through(self):
        for seed in range(100):
            source = random.Random(3000 + seed)
            one = random_piece(source)
            other = any_other(source, one)
            window = source.choice((None, any_other(source, one)))
            late = random_front(source, one)
            early = least_of(one, late, random_front(source, one))
            told = through(early, one, other, window)
            self.assertTrue(covers(told, through(late, one, other, window)))
            self.assertTrue(covers(through(early, one, other, None), told))

    def test_turned(self):
        for seed in range(100):
            source = random.Random(4000 + seed)
            one = random_piece(source)
            other = any_other(source, one)
            window = source.choice((None, any_other(source, one)))
            row = random_row(source, one)
            front = spread(one, row)
            for turn in TURNS:
                ones, others = turned_piece(one, *turn), turned_piece(other, *turn)
                windows = None if window is None else turned_piece(window, *turn)
                self.assertEqual(full_front(ones), turned_row(full_front(one), *turn))
                self.assertEqual(spread(ones, turned_row(row, *turn)), turned_row(front, *turn))
                self.assertEqual(through(turned_row(front, *turn), ones, others, windows),
                                 turned_row(through(front, one, other, window), *turn))

    def test_rows_of_links(self):
        for seed in range(40):
            source = random.Random(5000 + seed)
            one = random_piece(source)
            front = full_front(one)
            for _ in range(5):
                other = any_other(source, one)
                told = through(front, one, other, None)
                self.assertIs(is_front(other, told), True)
                self.assertTrue(covers(through(full_front(one), one, other, None), told))
                one, front = other, told or full_front(other)


if __name__ == "__main__":
    unittest.main()
