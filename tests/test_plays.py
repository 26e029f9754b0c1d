import random
import unittest
from fractions import Fraction

from drawn import as_lists, drawn_play, drawn_world, is_right_play, lets, place_at, station_of, times_of, with_stops
from helper import NO_NUMBERS, ODDITIES, LaneCase
from lanecross.errors import BadNumber, BadPlay, BadWorld, Misfit
from lanecross.pieces import Piece
from lanecross.plays import hops_of, is_play, joined, parted, plain, starts, straightened, where_at, wins_at
from lanecross.turned import backward, mirrored, moved, stretched, with_links, with_piece, without
from lanecross.worlds import World
from reference import frac, number, random_number, random_piece

BANK, BOAT, FAR = Piece(0, 10, (0, 0), (3, 3)), Piece(0, 10, (1, 6), (2, 7)), Piece(0, 12, (6, 6), (8, 8))
WORLD = World([BANK, BOAT, FAR], [(0, 1, None), (1, 2, None), (1, 0, None)], (0, 0, 0), [2])
PLAY = ((0, 0, 0), (2, 2, 1), (4, 4, 1), (8, 6, 2), (9, (13, 2), 2))
SAME = World([BANK, BANK, BANK], [(0, 1, None), (1, 0, None), (1, 2, BOAT), (1, 2, None)], (0, 0, 0), [2])


def drawn_plays(seed, many):
    """Worlds, with plays that were drawn in them, some of which start."""
    source = random.Random(seed)
    for _ in range(many):
        world = drawn_world(source)
        for station in (world.start, station_of(source, world)):
            yield source, world, drawn_play(source, world, station)


class IsPlayTest(LaneCase):
    def check_play(self, world, value, so):
        self.assertIs(is_play(world, value), so)
        self.assertIs(is_play(world, as_lists(value)), so)

    def test_drawn_plays(self):
        longest = hops = 0
        for _, world, play in drawn_plays(101, 100):
            self.assertTrue(is_right_play(world, play))
            self.check_play(world, play, True)
            self.check_play(world, play[1:] or play, True)
            longest, hops = max(longest, len(play)), hops + len(hops_of(world, play))
        self.assertGreater(longest, 6)
        self.assertGreater(hops, 100)

    def test_spoilt_plays(self):
        right = wrong = 0
        for source, world, play in drawn_plays(102, 50):
            at = source.randrange(len(play))
            many = len(world.pieces)
            for part in range(2):
                for by in (1, -1, Fraction(1, 1000003), Fraction(-1, 1000003), Fraction(7, 3)):
                    station = list(play[at])
                    station[part] = number(frac(station[part]) + by)
                    self.check_play(world, [*play[:at], station, *play[at + 1:]], is_right_play(world, [*play[:at], station, *play[at + 1:]]))
            spoilt = [[*play[:at], (*play[at][:2], other), *play[at + 1:]] for other in range(many)]
            spoilt.append(play[:at] + play[at + 1:] or play)
            spoilt.append(play[:at] + [play[at]] + play[at:])
            if at > 0:
                spoilt.append([*play[:at - 1], play[at], play[at - 1], *play[at + 1:]])
            for value in spoilt:
                so = is_right_play(world, value)
                self.check_play(world, value, so)
                right, wrong = right + so, wrong + (not so)
        self.assertGreater(right, 50)
        self.assertGreater(wrong, 200)

    def test_by_hand(self):
        for value in ([(0, 0, 0)], [(0, 3, 0), (3, 0, 0)], [(0, 0, 0), (0, 0, 1)], [(0, 0, 0), (0, 0, 1), (0, 0, 0), (0, 0, 1)], [(4, 3, 1), (4, 3, 2)],
                      [(0, 0, 0), ((1, 2), (1, 2), 0), (1, 0, 1)], [(10, 3, 0)]):
            self.check_play(SAME, value, True)
        for value in ([(0, 0, 0), (0, 0, 0)], [(0, 0, 0), (0, 0, 2)], [(0, 0, 2), (1, 0, 1)], [(0, 0, 0), (1, 0, 1), ((1, 2), 0, 1)],
                      [(0, 0, 0), (1, (1000001, 1000000), 0)], [(0, 0, 0), ((1000000, 1000001), 1, 0)], [(10, 3, 0), (11, 3, 0)], [(-1, 0, 0)], [(0, 4, 0)],
                      [(0, 0, 0), (1, -1, 0)], [(11, 0, 0)], [(1, 0, 0), (2, 4, 1)]):
            self.check_play(SAME, value, False)

    def test_windows(self):
        world = World([BANK, BANK], [(0, 1, Piece(2, 3, (1, 1), (2, 2)))], (0, 0, 0), [])
        for moment, place, so in ((2, 1, True), (3, 2, True), ((5, 2), (3, 2), True), (2, (1, 2), False), ((3, 2), 1, False), ((7, 2), 1, False),
                                  (3, (5, 2), False)):
            self.check_play(world, [(0, place, 0), (moment, place, 1)], so)
            self.check_play(world, [(0, place, 1), (moment, place, 0)], False)

    def test_values_of_all_kinds(self):
        for value in (*ODDITIES, PLAY[0], [()], [PLAY], {0: PLAY[0]}, {PLAY[0]}, "000", ["000"], [*PLAY, None], [(0, 0)], [(0, 0, 0, 0)], [(0, 0, 3)],
                      [(0, 0, -1)], [(0, 0, False)], [(0, True, 0)], [(False, 0, 0)], [(0, 0, (0, 1))], [(0, 0.0, 0)], [(0, 0, 0.0)], [(0, 0, None)],
                      [{0: 0, 1: 0, 2: 0}], [(0, (4, 2), 0)], [((0, 1), 0, 0)], range(3), iter(PLAY), WORLD):
            self.assertIs(is_play(WORLD, value), False)
        for value in NO_NUMBERS:
            self.assertIs(is_play(WORLD, [(value, 0, 0)]), False)
            self.assertIs(is_play(WORLD, [(0, value, 0)]), False)
            self.assertIs(is_play(WORLD, [(0, 0, 0), (value, 1, 0)]), False)
        self.assertIs(is_play(value=PLAY, world=WORLD), True)

    def test_turned_worlds(self):
        for source, world, play in drawn_plays(103, 25):
            at, by = source.randrange(len(play)), Fraction(1, 7)
            moment, place, factor = random_number(source, 5, 3), random_number(source, 5, 3), number(abs(frac(random_number(source, 5, 3))) + 1)
            spoilt = [*play[:at], (number(frac(play[at][0]) + by), *play[at][1:]), *play[at + 1:]]
            turns = ((mirrored(world), lambda t: t, lambda x: -x), (moved(world, moment, place), lambda t: t + frac(moment), lambda x: x + frac(place)),
                     (stretched(world, factor), lambda t: t * frac(factor), lambda x: x * frac(factor)))
            for value in (play, spoilt):
                so = is_play(world, value)
                for turned, of_moment, of_place in turns:
                    told = [(number(of_moment(frac(t))), number(of_place(frac(x))), p) for t, x, p in value]
                    self.assertIs(is_play(turned, told), so)
                    if so:
                        self.assertIs(starts(turned, told), starts(world, value))
                        self.assertEqual(hops_of(turned, told), hops_of(world, value))

    def test_more_and_less(self):
        for source, world, play in drawn_plays(104, 40):
            new = random_piece(source)
            links = [(len(world.pieces), 0, None), (0, len(world.pieces), new)]
            self.assertIs(is_play(with_piece(world, new, links), play), True)
            self.assertIs(is_play(with_links(world, [(0, 1, new)] if len(world.pieces) > 1 else []), play), True)
            for piece in range(len(world.pieces)):
                kept = all(station[2] == piece for station in play) or all(station[2] != piece for station in play)
                self.assertIs(is_play(without(world, piece), play), kept)

    def test_backward(self):
        for _, world, play in drawn_plays(105, 60):
            (first, *_, last), hops = (*play, play[-1]), hops_of(world, play)
            turned = backward(world, last, [])
            # Backward a leg is in the piece into which its hop, now ahead of it, led.
            told = [(number(-frac(t)), x, play[max(at - 1, 0)][2]) for at, (t, x, _) in enumerate(play)][::-1]
            told = [turned.start, *told]
            told = [station for at, station in enumerate(told) if at == 0 or station != told[at - 1]]
            self.assertIs(is_play(turned, told), True)
            self.assertEqual((told[0], told[-1]), (turned.start, (number(-frac(first[0])), *first[1:])))
            self.assertEqual(len(hops_of(turned, told)), len(hops))


class WhereTest(LaneCase):
    def test_where_at(self):
        for _, world, play in drawn_plays(111, 35):
            for moment in times_of(play):
                found = place_at(play, moment)
                wanted = None if found is None else (number(moment), number(found[0]), found[1])
                self.assertEqual(where_at(world, play, number(moment)), wanted)
                self.assertEqual(where_at(world, as_lists(play), as_lists(number(moment))), wanted)

    def test_hops_at_one_moment(self):
        play = [(0, 0, 0), (1, 1, 1), (1, 1, 0), (1, 1, 1), (1, 1, 2)]
        self.assertEqual([where_at(SAME, play, moment) for moment in (0, (1, 2), 1, (3, 2), -1)],
                         [(0, 0, 0), ((1, 2), (1, 2), 0), (1, 1, 2), None, None])
        self.assertEqual([where_at(SAME, [(1, 2, 0)], moment) for moment in (0, 1, 2)], [None, (1, 2, 0), None])
        self.assertEqual(repr(where_at(WORLD, as_lists(PLAY), [7, 2])), "((7, 2), (7, 2), 1)")

    def test_wins_and_starts(self):
        wins = begun = 0
        for _, world, play in drawn_plays(112, 80):
            at = [moment for moment, _, piece in play if piece in world.goals]
            self.assertEqual(wins_at(world, play), at[0] if at else None)
            self.assertIs(starts(world, play), play[0] == world.start)
            wins, begun = wins + bool(at), begun + starts(world, play)
        self.assertTrue(wins > 15 and begun >= 80)
        self.assertEqual([starts(WORLD, play) for play in (PLAY, PLAY[1:], [[0, 0, 0]], [(0, 1, 0)])], [True, False, True, False])
        self.assertEqual([wins_at(WORLD, play) for play in (PLAY, PLAY[3:], PLAY[4:], PLAY[:3])], [8, 8, 9, None])
        self.assertIs(starts(World([BANK], [], [(1, 2), [1, 3], 0], []), [[[1, 2], (1, 3), 0]]), True)

    def test_hops_of(self):
        for _, world, play in drawn_plays(113, 80):
            hops = [lets(world, one[2], other[2], frac(other[0]), frac(other[1]))[0] for one, other in zip(play, play[1:]) if one[2] != other[2]]
            self.assertEqual(hops_of(world, play), tuple(hops))
        self.assertEqual(hops_of(SAME, [(0, 0, 0), (0, 0, 1), (0, 0, 2)]), (0, 3))
        self.assertEqual(hops_of(SAME, [(0, 1, 0), (0, 1, 1), (0, 1, 2)]), (0, 2))
        self.assertEqual(hops_of(SAME, [(0, 1, 0), (1, 1, 0)]), ())


def idle_stations(play):
    """The indices that could be left out, by the words of the document."""
    found = []
    for at in range(1, len(play) - 1):
        (t, x, p), (u, y, q), (v, z, _) = [(frac(m), frac(w), n) for m, w, n in play[at - 1:at + 2]]
        if p == q and (v == u or (y - x) / (u - t) == (z - y) / (v - u)):
            found.append(at)
    return found


class PlainTest(LaneCase):
    def check_same(self, world, play, other):
        self.assertTrue(is_right_play(world, other))
        self.assertEqual(hops_of(world, other), hops_of(world, play))
        self.assertEqual((other[0], other[-1]), (play[0], play[-1]))
        for moment in times_of(play):
            self.assertEqual(where_at(world, other, number(moment)), where_at(world, play, number(moment)))

    def test_plain(self):
        shorter = 0
        for source, world, drawn in drawn_plays(121, 40):
            play = with_stops(drawn, times_of(drawn)[1:-1:2])
            told = plain(world, play)
            self.assertEqual(told, plain(world, drawn))
            self.check_same(world, play, told)
            self.assertEqual(idle_stations(told), [])
            left = list(play)
            while idle_stations(left):
                del left[source.choice(idle_stations(left))]
            self.assertEqual(told, tuple(left))
            self.assertEqual(plain(world, told), told)
            self.assertEqual(plain(world, as_lists(play)), told)
            self.assertTrue(all(isinstance(part, tuple) for part in (told, *told)))
            shorter += len(told) < len(play)
        self.assertGreater(shorter, 25)

    def test_plain_by_hand(self):
        for play, left in (([(0, 0, 0), (1, 1, 0), (1, 1, 1)], (1,)), ([(0, 0, 0), (1, 1, 0)], ()), ([(0, 0, 0)], ()), ([(0, 0, 0), (1, 1, 0), (2, 2, 0)], (1,)),
                           ([(0, 0, 0), (1, 1, 0), (2, 1, 0)], ()), ([(0, 0, 0), (1, 0, 0), (2, 0, 0), (3, 0, 0), (3, 0, 1), (4, 0, 1), (5, 0, 1)], (1, 2, 3, 5)),
                           ([(0, 0, 0), (0, 0, 1), (0, 0, 0), (1, 1, 1), (2, 2, 1)], ()), ([(0, 0, 0), (2, 1, 0), (3, (3, 2), 0), (4, (5, 2), 0)], (1,))):
            self.assertEqual(plain(SAME, play), tuple(station for at, station in enumerate(play) if at not in left))

    def test_straightened(self):
        shorter = 0
        for _, world, play in drawn_plays(122, 120):
            told = straightened(world, play)
            self.assertTrue(is_right_play(world, told))
            self.assertEqual((told[0], told[-1]), (play[0], play[-1]))
            pieces = [station[2] for station in told]
            rows = [piece for at, piece in enumerate(pieces) if at == 0 or pieces[at - 1] != piece]
            self.assertEqual(len(rows), len(set(rows)))
            self.assertLess(len(hops_of(world, told)), len(world.pieces))
            self.assertLessEqual(len(hops_of(world, told)), len(hops_of(world, play)))
            self.assertEqual(rows[0], play[0][2])
            self.assertTrue(set(told) <= set(play))
            self.assertEqual(straightened(world, as_lists(play)), told)
            self.assertEqual(straightened(world, told), told)
            shorter += len(told) < len(plain(world, play))
        self.assertGreater(shorter, 20)

    def test_straightened_by_hand(self):
        self.assertEqual(straightened(SAME, [(0, 0, 0)]), ((0, 0, 0),))
        self.assertEqual(straightened(SAME, [(0, 0, 0), (0, 0, 1), (0, 0, 0)]), ((0, 0, 0),))
        self.assertEqual(straightened(SAME, [(0, 0, 0), (1, 1, 1), (1, 1, 0), (1, 1, 1)]), ((0, 0, 0), (1, 1, 1)))
        self.assertEqual(straightened(SAME, [(0, 0, 0), (1, 1, 0), (2, 0, 0)]), ((0, 0, 0), (2, 0, 0)))
        self.assertEqual(straightened(SAME, [(0, 0, 0), (1, 1, 1), (1, 1, 0), (2, 0, 0)]), ((0, 0, 0), (2, 0, 0)))
        self.assertEqual(straightened(SAME, [(0, 0, 0), (1, 1, 1), (1, 1, 0), (2, 1, 1)]), ((0, 0, 0), (2, 1, 1)))
        self.assertEqual(straightened(SAME, [(0, 0, 0), (1, 1, 1), (1, 1, 0), (2, 1, 1), (3, 0, 1), (4, 0, 2), (5, 0, 2)]),
                         ((0, 0, 0), (2, 1, 1), (4, 0, 2), (5, 0, 2)))


class PartedTest(LaneCase):
    def test_parted_and_joined(self):
        for _, world, play in drawn_plays(131, 25):
            for moment in times_of(play)[1:-1]:
                middle = where_at(world, play, number(moment))
                told = parted(world, play, number(moment))
                self.assertIsInstance(told, tuple)
                one, other = told
                self.assertTrue(is_right_play(world, one) and is_right_play(world, other))
                self.assertEqual((one[0], one[-1], other[0], other[-1]), (play[0], middle, middle, play[-1]))
                self.assertEqual([station for station in one if station != middle], [s for s in play if frac(s[0]) <= moment and s != middle])
                self.assertEqual(list(other[1:]), [station for station in play if frac(station[0]) > moment])
                self.assertEqual(joined(world, one, other), plain(world, play))
                self.assertEqual(joined(world, as_lists(one), as_lists(other)), plain(world, play))
                self.assertEqual(parted(world, as_lists(play), as_lists(number(moment))), told)

    def test_parted_at_hops(self):
        play = ((0, 0, 0), (1, 1, 1), (1, 1, 0), (1, 1, 1), (2, 1, 1))
        self.assertEqual(parted(SAME, play, 1), (play[:4], play[3:]))
        self.assertEqual(parted(SAME, play, 0), (play[:1], play))
        self.assertEqual(parted(SAME, play, 2), (play, play[4:]))
        self.assertEqual(parted(SAME, play, (3, 2)), ((*play[:4], ((3, 2), 1, 1)), (((3, 2), 1, 1), play[4])))
        self.assertEqual(parted(SAME, play[:1], 0), (play[:1], play[:1]))

    def test_joined_by_hand(self):
        self.assertEqual(joined(SAME, [(0, 0, 0), (1, 1, 0)], [(1, 1, 0), (2, 2, 0)]), ((0, 0, 0), (2, 2, 0)))
        self.assertEqual(joined(SAME, [(0, 0, 0)], [[0, 0, 0]]), ((0, 0, 0),))
        self.assertEqual(joined(SAME, [(0, 0, 0), (1, 1, 1)], [(1, 1, 1), (1, 1, 0)]), ((0, 0, 0), (1, 1, 1), (1, 1, 0)))
        for one, other in ((PLAY, PLAY), (PLAY[:2], PLAY[2:]), (PLAY[1:], PLAY[:2]), ([(0, 0, 0)], [(0, 0, 1), (1, 0, 1)])):
            self.check_part(Misfit, "station", joined, SAME if one[-1] == (0, 0, 0) else WORLD, one, other)


class RefusedTest(LaneCase):
    def test_worlds(self):
        for value in (*ODDITIES, BANK, str(WORLD), World):
            for told, more in ((is_play, 1), (starts, 1), (wins_at, 1), (where_at, 2), (plain, 1), (straightened, 1), (parted, 2), (joined, 2), (hops_of, 1)):
                self.check_part(BadWorld, "world", told, value, *[None] * more)

    def test_plays(self):
        for value in (*ODDITIES, [(0, 0, 1)], [(0, 0, 0), (1, 1, 1)], [(0, 0, 0), (0, 0, 0)], [(0, 0, 3)], [(0, 0, False)], [*PLAY, None], PLAY[0]):
            for told in (starts, wins_at, plain, straightened, hops_of):
                self.check_part(BadPlay, "play", told, WORLD, value)
            for told in (where_at, parted):
                self.check_part(BadPlay, "play", told, WORLD, value, None)
            self.check_part(BadPlay, "one", joined, WORLD, value, None)
            self.check_part(BadPlay, "other", joined, WORLD, PLAY, value)

    def test_moments(self):
        for value in NO_NUMBERS:
            if value not in ((1, 2), [1, 2]):
                self.check_part(BadNumber, "moment", where_at, WORLD, PLAY, value)
                self.check_part(BadNumber, "moment", parted, WORLD, PLAY, value)
        for value in (-1, 10, (-1, 2), (19, 2), 10 ** 60):
            self.check_part(Misfit, "moment", parted, WORLD, PLAY, value)
            self.assertIsNone(where_at(WORLD, PLAY, value))

    def test_names(self):
        self.assertEqual(where_at(moment=0, play=PLAY, world=WORLD), (0, 0, 0))
        self.assertEqual(joined(other=PLAY[3:], one=PLAY[:4], world=WORLD), PLAY)
        self.assertEqual(parted(moment=9, play=PLAY, world=WORLD)[1], PLAY[4:])
        self.assertEqual([told(play=PLAY, world=WORLD) for told in (starts, wins_at, plain, straightened, hops_of)],
                         [True, 8, PLAY, (PLAY[0], PLAY[1], PLAY[3], PLAY[4]), (0, 1)])

    def test_what_is_passed_stays(self):
        play = as_lists(PLAY)
        told = [plain(WORLD, play), straightened(WORLD, play), *parted(WORLD, play, 3), joined(WORLD, play, [play[-1]])]
        self.assertEqual(play, as_lists(PLAY))
        play[0][0] = 7
        play.clear()
        self.assertTrue(all(part[0] in (PLAY[0], (3, 3, 1)) for part in told))


if __name__ == "__main__":
    unittest.main()
